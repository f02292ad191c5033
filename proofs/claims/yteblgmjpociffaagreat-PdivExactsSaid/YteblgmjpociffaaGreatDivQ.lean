/- The reference's DivMod over the rationals, told by its rounds. The reference's DivMod of whole coefficients: the mathematics of its rounds, and its contract. -/
import Derived.Test.YteblgmjpociffaaGreatDivN
import Derived.Test.YteblgmjpociffaaGreatCatA
import Derived.Test.YteblgmjpociffaaGreatDivA
namespace Go.Proofs.YteblgmjpociffaaGreat.Sym
open Go.RowKit
def sB (b : Nat -> Rat) (c : Rat) (d i : Nat) : Rat := if i < d then 0 else b (i - d) * c
theorem sB_lo {b : Nat -> Rat} {c : Rat} {d i : Nat} (h : i < d) : sB b c d i = 0 := if_pos h
theorem sB_hi {b : Nat -> Rat} {c : Rat} {d i : Nat} : sB b c d (d + i) = b i * c := by rw [sB, if_neg (by omega), Nat.add_sub_cancel_left]
theorem Rw.own {sz n : Nat} {F : Nat -> World -> Value -> Prop} {w w1 : World} {v : Value} (h : Rw sz F n w v) (hK : ∀ i w w1 v, Kp w w1 -> F i w v -> F i w1 v) (k : Kp w w1) (hb : ∀ g, blk v = some g -> w1.heap[g]? = w.heap[g]?) : Rw sz F n w1 v := by
 obtain ⟨p, c, rfl, hc, he⟩ := h
 refine ⟨p, c, rfl, hc, fun i hi => ?_⟩
 obtain ⟨b, off, rfl, l, h1, h2, h3⟩ := he i hi
 refine ⟨b, off, rfl, l, h1, fun j u hj => ?_, hK _ _ _ _ k h3⟩
 rw [World.cell?_of_block (hb b rfl)]; exact h2 j u hj
theorem FilX.kp {j K : Nat} {w w1 : World} {v : Value} {i : Nat} (h : i < j -> DecQ w v 0 K) (g : Kp w w1) : i < j -> DecQ w1 v 0 K := fun hi => DecQ.kp (h hi) g
theorem qAppM4 {Φ : Nat -> World -> Value -> Prop} {p q x j n m : Nat} {F G F' : Nat -> World -> Value -> Prop} (hK : ∀ i w w1 v, Kp w w1 -> F' i w v -> F' i w1 v) (hp : ∀ w v, Φ p w v -> ArrO 4 53 F n w v) (hq : ∀ w v, Φ q w v -> Rw 4 G m w v) (h1F : ∀ i w v, i < n -> F i w v -> F' i w v) (h1G : ∀ i w v, i < m -> G i w v -> F' (n + i) w v) (hc : ∀ i w (l : List Value), G i w (.agg l.toArray) -> ∀ u, u ∈ l -> u.oneCell' = true ∧ NoNum u) (hn : n + m <= 1000000) (hx : Φ x = fun w v => ArrO 4 53 F' (n + m) w v) : SiteOk Φ Tryz.prog ⟨0, [.fact p, .fact q], [⟨.one .s, [(0, 0, x)]⟩], .loose [] j 0 (mApp 30 30)⟩ := by
 obtain ⟨i0, hi, hz0, hz1, hz2⟩ := info_parts infoS
 exact qAppM Tryz.underlying30 hi hz0 hz1 hz2 rfl (by omega) (by omega) zS_nn hK hp hq h1F h1G hc hn hx
def b_xdivmod (a : Nat -> Nat -> Rat) (N : Nat -> Nat) (b : Nat -> Rat) (Q : Nat -> Nat -> Rat) (m R k l L : Nat) : List (World -> Value -> Prop) := [fun w v => Rw 4 (fun ι w v => DecQ w v ((a 0 ι)) k) (N 0) w v, fun w v => Rw 4 (fun ι w v => DecQ w v (b ι) l) m w v, fun _ v => v = .int .i64 (((N 0) : Nat) : Int), fun _ v => v = .int .i64 ((m : Nat) : Int), fun _ v => v = .int .i64 ((((N 0) : Nat) : Int) - ((m : Nat) : Int)), fun _ v => v = .int .i64 ((((N 0) : Nat) : Int) - ((m : Nat) : Int) + 1), fun _ v => v = .int .i64 ((L : Nat) : Int), fun w v => ArrO 4 53 (fun ι w v => ι < 0 -> DecQ w v 0 k) L w v, LenS L, fun _ v => v = .int .i64 ((L : Nat) : Int), fun w v => ArrO 4 53 (fun ι w v => DecQ w v (Q 0 ι) k) L w v, fun w v => Rw 4 (fun ι w v => DecQ w v ((a R ι)) k) (N R) w v, fun w v => ArrO 4 53 (fun ι w v => DecQ w v (Q R ι) k) L w v, fun w v => Rw 4 (fun ι w v => DecQ w v (Q R ι) k) (tl (fun ι => (Q R ι).num) L) w v]
def l_xdivmod_3 (N : Nat -> Nat) (m k : Nat) (j u : Nat) : List (World -> Value -> Prop) := [fun _ v => v = .int .i64 ((u : Nat) : Int), fun w v => ArrO 4 53 (fun ι w v => ι < u -> DecQ w v 0 k) (N j - m) w v, fun _ _ => True, fun w v => DecQ w v (qOf 0 1) 6, fun w v => DecI w v ((qOf 0 1).num) 6, fun w v => DecI w v ((qOf 0 1).den : Int) 6, At 4, fun w v => Ptr 4 (fun w v => u < u -> DecQ w v 0 k) w v, fun w v => ArrO 4 53 (fun ι w v => ι < (u + 1) -> DecQ w v 0 k) (N j - m) w v, fun _ v => v = .int .i64 (((u + 1) : Nat) : Int)]
def d_xdivmod_3 : LoopD := ⟨[0, 1, 4, 5, 6, 8, 9, 12, 13, 14, 15, 16, 17, 18, 19, 20, 21, 22, 23, 30, 31, 32, 33, 34, 35, 36, 37, 38, 39, 40, 41, 42, 43, 44, 45, 46, 47, 48, 49, 50, 51, 52, 53, 54, 55, 56, 57, 58, 59, 60], [(.slot 61, .i), (.slot 10, .s)], [(.one 0, 50), (.one 1, .at [2] 51), (.one 1, .lo 2)], [.closed (.one (.ci .i64 0)), .from 37, .from 0], 50, [(51, 40)]⟩
def r_xdivmod_3_0 : List Step := [.base ⟨0, [.fact 50, .fact 39], [⟨.one (.lit (.cb true)), []⟩], .quiet (mBin .lss)⟩,
   .base ⟨84, [], [⟨.agg [.s, .b, .s, .b], [(0, 0, 53), (0, 2, 54), (2, 2, 55)]⟩], false⟩,
   .base ⟨0, [.fact 51, .fact 50], [⟨.one (.p), [(0, 0, 57)]⟩], .joint [2] 56 (mIdx 30)⟩,
   .base ⟨0, [.fact 51, .fact 50, .any, .fact 53], [⟨.one .s, [(0, 0, 58)]⟩], .put [] 2 0 56 (mPut 53 (.tmp 64) (.tmp 65))⟩,
   .base ⟨0, [.fact 50, .lit (.ci .i64 1)], [⟨.one (.i), [(0, 0, 59)]⟩], .quiet (mBin .add)⟩]
def o_xdivmod_3 : List Step := [.base ⟨0, [.fact 50, .fact 39], [⟨.one (.lit (.cb false)), []⟩], .quiet (mBin .lss)⟩]
def l_xdivmod_2 (a : Nat -> Nat -> Rat) (N : Nat -> Nat) (b c : Nat -> Rat) (Q : Nat -> Nat -> Rat) (m k l L : Nat) (j : Nat) : List (World -> Value -> Prop) := [fun w v => Rw 4 (fun ι w v => DecQ w v ((a j ι)) k) (N j) w v, fun w v => ArrO 4 53 (fun ι w v => DecQ w v (Q j ι) k) L w v, fun _ _ => True, LenS (N j), fun _ v => v = .int .i64 (((N j) : Nat) : Int), fun _ v => v = .int .i64 ((m : Nat) : Int), fun _ v => v = .int .i64 (((N j) : Nat) : Int), fun _ v => v = .int .i64 ((m : Nat) : Int), fun _ v => v = .int .i64 (((N j - m) : Nat) : Int), fun _ v => v = .int .i64 (((N j) : Nat) : Int), fun _ v => v = .int .i64 (((N j - 1) : Nat) : Int), fun w v => Ptr 4 (fun w v => DecQ w v ((a j (N j - 1))) k) w v, fun w v => DecQ w v ((a j (N j - 1))) k, fun _ v => v = .int .i64 ((m : Nat) : Int), fun _ v => v = .int .i64 (((m - 1) : Nat) : Int), fun w v => Ptr 4 (fun w v => DecQ w v (b (m - 1)) l) w v, fun w v => DecQ w v (b (m - 1)) l, fun w v => DecQ w v (c j) (2 * (k + l) + 2), fun w v => DecI w v ((c j).num) (2 * (k + l) + 2), fun w v => DecI w v ((c j).den : Int) (2 * (k + l) + 2), At 4, fun w v => Ptr 4 (fun w v => DecQ w v (Q j (N j - m)) k) w v, fun w v => ArrO 4 53 (fun ι w v => DecQ w v (Q (j + 1) ι) k) L w v, fun w v => ArrO 4 53 (fun ι w v => ι < 0 -> DecQ w v 0 k) (N j - m) w v, LenS (N j - m), fun _ v => v = .int .i64 (((N j - m) : Nat) : Int), fun w v => ArrO 4 53 (fun ι w v => ι < (N j - m) -> DecQ w v 0 k) (N j - m) w v, fun _ v => v = .int .i64 (((N j) : Nat) : Int), fun _ v => v = .int .i64 (((N j) : Nat) : Int), fun w v => Rw 4 (fun ι w v => DecQ w v ((a j ι)) k) (N j) w v, fun w v => Rw 4 (fun ι w v => DecQ w v ((b ι * c j)) k) m w v, fun w v => ArrO 4 53 (fun ι w v => DecQ w v (sB b (c j) (N j - m) ι) k) ((N j - m) + m) w v, fun w v => ArrO 4 53 (fun ι w v => DecQ w v ((dX (a j) (N j) (sB b (c j) (N j - m)) ((N j - m) + m) ι)) k) (N (j + 1)) w v, LenS (N j), fun _ v => v = .int .i64 (((N j) : Nat) : Int), fun _ v => v = .int .i64 ((m : Nat) : Int)]
def d_xdivmod_2 : LoopD := ⟨[1, 4, 5, 12, 13, 14, 15, 16, 17, 18, 19, 20, 21, 22, 23], [(.slot 0, .s), (.slot 6, .s)], [(.one 0, .at [3] 14), (.one 1, .at [1] 15), (.one 1, .lo 1)], [.from 0, .from 10, .from 0], 14, [(14, 11), (15, 12)]⟩
def r_xdivmod_2_0 : List Step := [.freed (.one (.s 17 0)) 14 17,
   .base ⟨0, [.fact 17], [⟨.one (.i), [(0, 0, 18)]⟩], .quiet (mLen 30)⟩,
   .base ⟨0, [.fact 1], [⟨.one (.i), [(0, 0, 19)]⟩], .quiet (mLen 30)⟩,
   .base ⟨0, [.fact 18, .fact 19], [⟨.one (.lit (.cb true)), []⟩], .quiet (mBin .geq)⟩,
   .base ⟨0, [.fact 17], [⟨.one (.i), [(0, 0, 20)]⟩], .quiet (mLen 30)⟩,
   .base ⟨0, [.fact 1], [⟨.one (.i), [(0, 0, 21)]⟩], .quiet (mLen 30)⟩,
   .base ⟨0, [.fact 20, .fact 21], [⟨.one (.i), [(0, 0, 22)]⟩], .quiet (mBin .sub)⟩,
   .base ⟨0, [.fact 17], [⟨.one (.i), [(0, 0, 23)]⟩], .quiet (mLen 30)⟩,
   .base ⟨0, [.fact 23, .lit (.ci .i64 1)], [⟨.one (.i), [(0, 0, 24)]⟩], .quiet (mBin .sub)⟩,
   .base ⟨0, [.fact 14, .fact 24], [⟨.one (.p), [(0, 0, 25)]⟩], .quietJ [3] (mIdx 30)⟩,
   .base ⟨0, [.fact 25], [⟨.agg [.s, .b, .s, .b], [(0, 0, 26)]⟩], .quietF [3] (mLoad 53)⟩,
   .base ⟨0, [.fact 1], [⟨.one (.i), [(0, 0, 27)]⟩], .quiet (mLen 30)⟩,
   .base ⟨0, [.fact 27, .lit (.ci .i64 1)], [⟨.one (.i), [(0, 0, 28)]⟩], .quiet (mBin .sub)⟩,
   .base ⟨0, [.fact 1, .fact 28], [⟨.one (.p), [(0, 0, 29)]⟩], .quiet (mIdx 30)⟩,
   .base ⟨0, [.fact 29], [⟨.agg [.s, .b, .s, .b], [(0, 0, 30)]⟩], .quiet (mLoad 53)⟩,
   .base ⟨87, [.fact 26, .fact 30], [⟨.agg [.s, .b, .s, .b], [(0, 0, 31), (0, 2, 32), (2, 2, 33)]⟩], false⟩,
   .base ⟨0, [.fact 15, .fact 22], [⟨.one (.p), [(0, 0, 35)]⟩], .joint [1] 34 (mIdx 30)⟩,
   .base ⟨0, [.fact 15, .fact 22, .any, .fact 31], [⟨.one .s, [(0, 0, 36)]⟩], .put [] 1 0 34 (mPut 53 (.tmp 53) (.tmp 54))⟩,
   .base ⟨0, [.fact 22, .fact 22], [⟨.one (.s), [(0, 0, 37)]⟩], .loose [] 2 0 (mMake 30)⟩,
   .freed (.one (.s 50 0)) 37 38,
   .base ⟨0, [.fact 38], [⟨.one (.i), [(0, 0, 39)]⟩], .quiet (mLen 30)⟩,
   .loop d_xdivmod_3 [(r_xdivmod_3_0, [.from 59, .from 58, .from 0])] o_xdivmod_3,
   .base ⟨0, [.fact 17], [⟨.one (.i), [(0, 0, 41)]⟩], .quiet (mLen 30)⟩,
   .base ⟨0, [.fact 17], [⟨.one (.i), [(0, 0, 42)]⟩], .quiet (mLen 30)⟩,
   .base ⟨0, [.fact 14, .fact 41, .fact 42], [⟨.one (.s), [(0, 0, 43)]⟩], .quietJ [3] (mTo3 30)⟩,
   .base ⟨25, [.fact 1, .fact 31], [⟨.one (.s), [(0, 0, 44)]⟩], false⟩,
   .base ⟨0, [.fact 40, .fact 44], [⟨.one (.s), [(0, 0, 45)]⟩], .loose [] 2 0 (mApp 30 30)⟩,
   .base ⟨95, [.fact 43, .fact 45], [⟨.one (.s), [(0, 0, 46)]⟩], .callN [2, 3] 3⟩]
def o_xdivmod_2 : List Step := [.freed (.one (.s 17 0)) 14 47,
   .base ⟨0, [.fact 47], [⟨.one (.i), [(0, 0, 48)]⟩], .quiet (mLen 30)⟩,
   .base ⟨0, [.fact 1], [⟨.one (.i), [(0, 0, 49)]⟩], .quiet (mLen 30)⟩,
   .base ⟨0, [.fact 48, .fact 49], [⟨.one (.lit (.cb false)), []⟩], .quiet (mBin .geq)⟩]
def l_xdivmod_1 (k L : Nat) (u : Nat) : List (World -> Value -> Prop) := [fun _ v => v = .int .i64 ((u : Nat) : Int), fun w v => ArrO 4 53 (fun ι w v => ι < u -> DecQ w v 0 k) L w v, fun _ _ => True, fun w v => DecQ w v (qOf 0 1) 6, fun w v => DecI w v ((qOf 0 1).num) 6, fun w v => DecI w v ((qOf 0 1).den : Int) 6, At 4, fun w v => Ptr 4 (fun w v => u < u -> DecQ w v 0 k) w v, fun w v => ArrO 4 53 (fun ι w v => ι < (u + 1) -> DecQ w v 0 k) L w v, fun _ v => v = .int .i64 (((u + 1) : Nat) : Int)]
def d_xdivmod_1 : LoopD := ⟨[0, 1, 4, 5, 12, 13, 14, 15, 16, 17, 18, 19, 20, 21], [(.slot 22, .i), (.slot 6, .s)], [(.one 0, 14), (.one 1, .at [1] 15), (.one 1, .lo 1)], [.closed (.one (.ci .i64 0)), .from 7, .from 0], 14, [(15, 10)]⟩
def r_xdivmod_1_0 : List Step := [.base ⟨0, [.fact 14, .fact 9], [⟨.one (.lit (.cb true)), []⟩], .quiet (mBin .lss)⟩,
   .base ⟨84, [], [⟨.agg [.s, .b, .s, .b], [(0, 0, 17), (0, 2, 18), (2, 2, 19)]⟩], false⟩,
   .base ⟨0, [.fact 15, .fact 14], [⟨.one (.p), [(0, 0, 21)]⟩], .joint [1] 20 (mIdx 30)⟩,
   .base ⟨0, [.fact 15, .fact 14, .any, .fact 17], [⟨.one .s, [(0, 0, 22)]⟩], .put [] 1 0 20 (mPut 53 (.tmp 25) (.tmp 26))⟩,
   .base ⟨0, [.fact 14, .lit (.ci .i64 1)], [⟨.one (.i), [(0, 0, 23)]⟩], .quiet (mBin .add)⟩]
def o_xdivmod_1 : List Step := [.base ⟨0, [.fact 14, .fact 9], [⟨.one (.lit (.cb false)), []⟩], .quiet (mBin .lss)⟩]
def ss_xdivmod : List Step := [.base ⟨0, [.fact 0], [⟨.one (.i), [(0, 0, 2)]⟩], .quiet (mLen 30)⟩,
   .base ⟨0, [.fact 1], [⟨.one (.i), [(0, 0, 3)]⟩], .quiet (mLen 30)⟩,
   .base ⟨0, [.fact 2, .fact 3], [⟨.one (.i), [(0, 0, 4)]⟩], .quiet (mBin .sub)⟩,
   .base ⟨0, [.fact 4, .lit (.ci .i64 1)], [⟨.one (.i), [(0, 0, 5)]⟩], .quiet (mBin .add)⟩,
   .base ⟨0, [.fact 5, .lit (.ci .i64 0)], [⟨.one (.i), [(0, 0, 6)]⟩], .quiet (mMax .max)⟩,
   .base ⟨0, [.fact 6, .fact 6], [⟨.one (.s), [(0, 0, 7)]⟩], .loose [] 1 0 (mMake 30)⟩,
   .freed (.one (.s 10 0)) 7 8,
   .base ⟨0, [.fact 8], [⟨.one (.i), [(0, 0, 9)]⟩], .quiet (mLen 30)⟩,
   .loop d_xdivmod_1 [(r_xdivmod_1_0, [.from 23, .from 22, .from 0])] o_xdivmod_1,
   .loop d_xdivmod_2 [(r_xdivmod_2_0, [.own 46 3, .from 36, .from 0])] o_xdivmod_2,
   .base ⟨74, [.fact 12], [⟨.one (.s), [(0, 0, 13)]⟩], .callJ [1] false⟩]
def ins_xdivmod : List Out := [⟨.one (.s), [(0, 0, 0)]⟩, ⟨.one (.s), [(0, 0, 1)]⟩]
set_option maxRecDepth 100000 in
theorem xdivmod {a : Nat -> Nat -> Rat} {N : Nat -> Nat} {b c : Nat -> Rat} {Q : Nat -> Nat -> Rat} {m R k l L : Nat} (hm0 : 0 < m) (hm : m <= 1000) (hN : ∀ j, N j <= 1000) (hk : k <= 1000) (hl : l <= 1000) (hk1 : 1 <= k) (hge : ∀ j, j < R -> m <= N j) (hlt : N R < m) (hL : (if m <= N 0 then N 0 - m + 1 else 0) = L) (hNL : ∀ j, j < R -> N j - m < L) (hb0 : b (m - 1) ≠ 0) (hc : ∀ j, j < R -> a j (N j - 1) / b (m - 1) = c j) (hcB : ∀ j, j < R -> Bd (c j).num.natAbs k ∧ Bd (c j).den k) (hS : ∀ j, j < R -> ∀ i, i < m -> Bd (b i * c j).num.natAbs k ∧ Bd (b i * c j).den k) (hST : ∀ j, j < R -> tl (fun i => (b i * c j).num) m = m) (hSB : ∀ j, j < R -> ∀ i, i < (N j - m) + m -> Bd (sB b (c j) (N j - m) i).num.natAbs k ∧ Bd (sB b (c j) (N j - m) i).den k) (hSt : ∀ j, j < R -> 0 < (N j - m) + m -> (sB b (c j) (N j - m) ((N j - m) + m - 1)).num ≠ 0) (hD : ∀ j, j < R -> ∀ i, dX (a j) (N j) (sB b (c j) (N j - m)) ((N j - m) + m) i = a (j + 1) i) (hDB : ∀ j, j < R -> ∀ i, i < N j -> Bd (a (j + 1) i).num.natAbs k ∧ Bd (a (j + 1) i).den k) (hDN : ∀ j, j < R -> tl (fun i => (a (j + 1) i).num) (max (N j) ((N j - m) + m)) = N (j + 1)) (hQ0 : ∀ i, Q 0 i = 0) (hQ1 : ∀ j, j < R -> Q (j + 1) (N j - m) = c j) (hQ2 : ∀ j, j < R -> ∀ i, i ≠ (N j - m) -> Q (j + 1) i = Q j i) : SiteOk (ph (b_xdivmod a N b Q m R k l L)) Tryz.prog ⟨39, [.fact 0, .fact 1], [⟨.one (.s), [(0, 0, 13)]⟩, ⟨.one (.s), [(0, 0, 11)]⟩], true⟩ := by
 have hN0 := hN 0; have hL1 : L <= 1000 := by rw [<- hL]; split <;> omega
 exact fn_okL ins_xdivmod [⟨.one (.s), [(0, 0, 13)]⟩, ⟨.one (.s), [(0, 0, 11)]⟩] ss_xdivmod Tryz.func39 (by kernel_rfl)
  (lbase (qLen (sz := 4) (n := (N 0)) (F := (fun ι w v => DecQ w v ((a 0 ι)) k)) Tryz.underlying30 (fun _ _ h => Rw.arr h) rfl)
   (lbase (qLen (sz := 4) (n := m) (F := (fun ι w v => DecQ w v (b ι) l)) Tryz.underlying30 (fun _ _ h => Rw.arr h) rfl)
   (lbase (qSubJ (fun _ _ h => h) (fun _ _ h => h) (rfl) rfl (by omega) (by omega))
   (lbase (qAddK (fun _ _ h => h) (rfl) rfl (by omega) (by omega))
   (lbase (qMaxC (fun _ _ h => h) (by rw [<- hL]; split <;> split <;> omega) rfl)
   (lbase (qMakeR (n := L) (F := (fun ι w v => ι < 0 -> DecQ w v 0 k)) (fun _ _ h => h) (by omega) (fun i w h => absurd h (by omega)) rfl)
   (lfreed (freeLen (e := 53) (sz := 4) (n := L) (F := (fun ι w v => ι < 0 -> DecQ w v 0 k)) (fun _ _ h => h) rfl)
   (lbase (qLenS' (n := L) Tryz.underlying30 (fun _ _ h => h) rfl)
   (lloop (counted L (fun u => ph (b_xdivmod a N b Q m R k l L ++ l_xdivmod_1 k L u)) (fun _ => 0) (fun u p hp => ph_app' (show p < (b_xdivmod a N b Q m R k l L).length from hp)) ⟨fun _ => rfl, fun _ _ h => h, fun _ _ _ => trivial, trivial⟩ (fun u hu => by
   skip
   exact ⟨(r_xdivmod_1_0, [.from 23, .from 22, .from 0]), rfl, ⟨fun _ _ h => h, fun _ _ h => h, fun _ _ _ => trivial, trivial⟩, (lbase (qTest (op := .lss) (fun _ _ h => h) (fun _ _ h => h) (ts_run (decide_eq_true (by omega)) (by simp)))
   (lbase (tZeroX rfl rfl rfl)
   (lbase (qIdxJ (i := u) (sz := 4) (n := L) (F := (fun ι w v => ι < u -> DecQ w v 0 k)) Tryz.underlying30 (by kernel_rfl) (fun _ _ h => ArrO.arr h) (fun _ _ h => h) (by omega) rfl rfl)
   (lbase (qPutR (i := u) (n := L) (F := (fun ι w v => ι < u -> DecQ w v 0 k)) (F' := (fun ι w v => ι < (u + 1) -> DecQ w v 0 k)) (G := fun w v => DecQ w v (qOf 0 1) 6) (.tmp 25) (.tmp 26) (by kernel_rfl) (fun _ _ h => h) (fun _ _ h => h) (by omega) (fun _ _ h => h) rfl (fun _ _ h => DecQ.cells h) (fun _ _ _ _ g h => FilX.kp h g) (fun _ _ _ g h => DecQ.kp h g) (fun a w v ha h hi => h (by omega)) (fun w v h _ => DecQ.reX (h.eq qOf_0X) (Nat.pow_pos (by omega)) (one_ltX hk1)) rfl)
   (lbase (qAddK (fun _ _ h => h) (by omega) rfl (by omega) (by omega))
   lnil)))))⟩)
   (lbase (qTest (op := .lss) (fun _ _ h => h) (fun _ _ h => h) (ts_run (decide_eq_false (by omega)) (by simp)))
   lnil)
   (fun q hq w v h => by
    simp only [d_xdivmod_1, List.mem_cons, List.not_mem_nil, or_false] at hq
    rcases hq with rfl
    ·exact (fun h => ArrO.to (sz := 4) (e := 53) (n := L) (F := (fun ι w v => ι < L -> DecQ w v 0 k)) (G := (fun ι w v => DecQ w v (Q 0 ι) k)) h fun i w v hi h => by rw [hQ0]; exact h hi) h)) (lloop (counted R (fun j => ph (b_xdivmod a N b Q m R k l L ++ l_xdivmod_2 a N b c Q m k l L j)) (fun _ => 0) (fun j p hp => ph_app' (show p < (b_xdivmod a N b Q m R k l L).length from hp)) ⟨fun _ _ h => h, fun _ _ h => h, fun _ _ _ => trivial, trivial⟩ (fun j hj => by
   have h1 := hge j hj; have h2 := hNL j hj; have h3 := hN j
   exact ⟨(r_xdivmod_2_0, [.own 46 3, .from 36, .from 0]), rfl, ⟨fun w w1 v h hK hB => Rw.own (sz := 4) (n := N (j + 1)) (F := fun i w v => DecQ w v (a (j + 1) i) k) (Rw.to (sz := 4) (n := N (j + 1)) (F := fun i w v => DecQ w v (dX (a j) (N j) (sB b (c j) (N j - m)) ((N j - m) + m) i) k) (G := fun i w v => DecQ w v (a (j + 1) i) k) (ArrO.rw (e := 53) h) fun i w v _ h => by rw [<- hD j hj i]; exact h) (fun _ _ _ _ g h => DecQ.kp h g) hK hB, fun _ _ h => h, fun _ _ _ => trivial, trivial⟩, (lfreed (fun _ _ _ h => Rw.lenS (sz := 4) (n := (N j)) (F := (fun ι w v => DecQ w v ((a j ι)) k)) h)
   (lbase (qLenS' (n := (N j)) Tryz.underlying30 (fun _ _ h => h) rfl)
   (lbase (qLen (sz := 4) (n := m) (F := (fun ι w v => DecQ w v (b ι) l)) Tryz.underlying30 (fun _ _ h => Rw.arr h) rfl)
   (lbase (qTest (op := .geq) (fun _ _ h => h) (fun _ _ h => h) (ts_run (decide_eq_true (by omega)) (by simp)))
   (lbase (qLenS' (n := (N j)) Tryz.underlying30 (fun _ _ h => h) rfl)
   (lbase (qLen (sz := 4) (n := m) (F := (fun ι w v => DecQ w v (b ι) l)) Tryz.underlying30 (fun _ _ h => Rw.arr h) rfl)
   (lbase (qSubJ (fun _ _ h => h) (fun _ _ h => h) (by omega) rfl (by omega) (by omega))
   (lbase (qLenS' (n := (N j)) Tryz.underlying30 (fun _ _ h => h) rfl)
   (lbase (qSubK (fun _ _ h => h) (by omega) rfl (by omega) (by omega))
   (lbase (qIdx (i := (N j - 1)) (sz := 4) (n := (N j)) (F := (fun ι w v => DecQ w v ((a j ι)) k)) Tryz.underlying30 (by kernel_rfl) (fun _ _ h => Rw.arr h) (fun _ _ h => h) (by omega) rfl)
   (lbase (qLoadF (sz := 4) (F := fun w v => DecQ w v ((a j (N j - 1))) k) (by kernel_rfl) (by kernel_rfl) (fun _ _ h => h) (fun _ _ _ g h => DecQ.kp h g) (fun _ _ h => DecQ.is h) rfl)
   (lbase (qLen (sz := 4) (n := m) (F := (fun ι w v => DecQ w v (b ι) l)) Tryz.underlying30 (fun _ _ h => Rw.arr h) rfl)
   (lbase (qSubK (fun _ _ h => h) (by omega) rfl (by omega) (by omega))
   (lbase (qIdx (i := (m - 1)) (sz := 4) (n := m) (F := (fun ι w v => DecQ w v (b ι) l)) Tryz.underlying30 (by kernel_rfl) (fun _ _ h => Rw.arr h) (fun _ _ h => h) (by omega) rfl)
   (lbase (qLoad (sz := 4) (F := fun w v => DecQ w v (b (m - 1)) l) (by kernel_rfl) (by kernel_rfl) (fun _ _ h => h) (fun _ _ _ g h => DecQ.kp h g) (fun _ _ h => DecQ.is h) rfl)
   (lbase (tQuoR tS tS rfl rfl rfl (by omega) (hb0) (hc j hj))
   (lbase (qIdxJ (i := (N j - m)) (sz := 4) (n := L) (F := (fun ι w v => DecQ w v (Q j ι) k)) Tryz.underlying30 (by kernel_rfl) (fun _ _ h => ArrO.arr h) (fun _ _ h => h) (by omega) rfl rfl)
   (lbase (qPutR (i := (N j - m)) (n := L) (F := (fun ι w v => DecQ w v (Q j ι) k)) (F' := (fun ι w v => DecQ w v (Q (j + 1) ι) k)) (G := fun w v => DecQ w v (c j) (2 * (k + l) + 2)) (.tmp 53) (.tmp 54) (by kernel_rfl) (fun _ _ h => h) (fun _ _ h => h) (by omega) (fun _ _ h => h) rfl (fun _ _ h => DecQ.cells h) (fun _ _ _ _ g h => DecQ.kp h g) (fun _ _ _ g h => DecQ.kp h g) (fun i w v hi h => by rw [hQ2 j hj i hi]; exact h) (fun w v h => by rw [hQ1 j hj]; exact DecQ.reX h (hcB j hj).1 (hcB j hj).2) rfl)
   (lbase (qMakeR (n := (N j - m)) (F := (fun ι w v => ι < 0 -> DecQ w v 0 k)) (fun _ _ h => h) (by omega) (fun i w h => absurd h (by omega)) rfl)
   (lfreed (freeLen (e := 53) (sz := 4) (n := (N j - m)) (F := (fun ι w v => ι < 0 -> DecQ w v 0 k)) (fun _ _ h => h) rfl)
   (lbase (qLenS' (n := (N j - m)) Tryz.underlying30 (fun _ _ h => h) rfl)
   (lloop (counted (N j - m) (fun u => ph ((b_xdivmod a N b Q m R k l L ++ l_xdivmod_2 a N b c Q m k l L j) ++ l_xdivmod_3 N m k j u)) (fun _ => 0) (fun u p hp => ph_app' (show p < (b_xdivmod a N b Q m R k l L ++ l_xdivmod_2 a N b c Q m k l L j).length from hp)) ⟨fun _ => rfl, fun _ _ h => h, fun _ _ _ => trivial, trivial⟩ (fun u hu => by
   skip
   exact ⟨(r_xdivmod_3_0, [.from 59, .from 58, .from 0]), rfl, ⟨fun _ _ h => h, fun _ _ h => h, fun _ _ _ => trivial, trivial⟩, (lbase (qTest (op := .lss) (fun _ _ h => h) (fun _ _ h => h) (ts_run (decide_eq_true (by omega)) (by simp)))
   (lbase (tZeroX rfl rfl rfl)
   (lbase (qIdxJ (i := u) (sz := 4) (n := (N j - m)) (F := (fun ι w v => ι < u -> DecQ w v 0 k)) Tryz.underlying30 (by kernel_rfl) (fun _ _ h => ArrO.arr h) (fun _ _ h => h) (by omega) rfl rfl)
   (lbase (qPutR (i := u) (n := (N j - m)) (F := (fun ι w v => ι < u -> DecQ w v 0 k)) (F' := (fun ι w v => ι < (u + 1) -> DecQ w v 0 k)) (G := fun w v => DecQ w v (qOf 0 1) 6) (.tmp 64) (.tmp 65) (by kernel_rfl) (fun _ _ h => h) (fun _ _ h => h) (by omega) (fun _ _ h => h) rfl (fun _ _ h => DecQ.cells h) (fun _ _ _ _ g h => FilX.kp h g) (fun _ _ _ g h => DecQ.kp h g) (fun a w v ha h hi => h (by omega)) (fun w v h _ => DecQ.reX (h.eq qOf_0X) (Nat.pow_pos (by omega)) (one_ltX hk1)) rfl)
   (lbase (qAddK (fun _ _ h => h) (by omega) rfl (by omega) (by omega))
   lnil)))))⟩)
   (lbase (qTest (op := .lss) (fun _ _ h => h) (fun _ _ h => h) (ts_run (decide_eq_false (by omega)) (by simp)))
   lnil)
   (fun q hq w v h => by
    simp only [d_xdivmod_3, List.mem_cons, List.not_mem_nil, or_false] at hq
    rcases hq with rfl
    ·exact (fun h => h) h)) (lbase (qLenS' (n := (N j)) Tryz.underlying30 (fun _ _ h => h) rfl)
   (lbase (qLenS' (n := (N j)) Tryz.underlying30 (fun _ _ h => h) rfl)
   (lbase (qToA3 (n := (N j)) (F := (fun ι w v => DecQ w v ((a j ι)) k)) Tryz.underlying30 (by kernel_rfl) (fun _ _ h => h) (fun _ _ h => h) (fun _ _ h => h) rfl)
   (lbase (sRScaleX (q := b) (c := c j) (n := m) (K := k) (fun _ _ h => h) tS rfl (by omega) (by omega) (by omega) (by omega) (hS j hj) (hST j hj))
   (lbase (qAppM4 (n := (N j - m)) (m := m) (F := (fun ι w v => ι < (N j - m) -> DecQ w v 0 k)) (G := (fun ι w v => DecQ w v ((b ι * c j)) k)) (F' := (fun ι w v => DecQ w v (sB b (c j) (N j - m) ι) k)) (fun _ _ _ _ g h => DecQ.kp h g) (fun _ _ h => h) (fun _ _ h => h) (fun i w v hi h => by show DecQ w v (sB b (c j) (N j - m) i) k; rw [sB_lo hi]; exact h hi) (fun i w v _ h => by show DecQ w v (sB b (c j) (N j - m) ((N j - m) + i)) k; rw [sB_hi]; exact h) (fun i w l h => DecQ.cellsA h) (by omega) rfl)
   (lbase (sRSubN (q := a j) (r := sB b (c j) (N j - m)) (n := N j) (m := (N j - m) + m) (k := k) (l := k) (K := k) (N := N (j + 1)) (fun _ _ h => h) (fun _ _ h => ArrO.rw (e := 53) (sz := 4) (F := (fun ι w v => DecQ w v (sB b (c j) (N j - m) ι) k)) h) rfl (by omega) (by omega) (by omega) (by omega) (by omega) (by omega) (hSB j hj) (hSt j hj) (by omega) (fun i hi => by rw [hD j hj i]; exact hDB j hj i (by omega)) (by simp only [hD j hj]; exact hDN j hj))
   lnil))))))))))))))))))))))))))))⟩)
   (by
   obtain ⟨j, rfl⟩ : ∃ j, j = R := ⟨R, rfl⟩; have h4 := hlt; have h5 := hN j
   exact (lfreed (fun _ _ _ h => Rw.lenS (sz := 4) (n := (N j)) (F := (fun ι w v => DecQ w v ((a j ι)) k)) h)
   (lbase (qLenS' (n := (N j)) Tryz.underlying30 (fun _ _ h => h) rfl)
   (lbase (qLen (sz := 4) (n := m) (F := (fun ι w v => DecQ w v (b ι) l)) Tryz.underlying30 (fun _ _ h => Rw.arr h) rfl)
   (lbase (qTest (op := .geq) (fun _ _ h => h) (fun _ _ h => h) (ts_run (decide_eq_false (by omega)) (by simp)))
   lnil)))))
   (fun q hq w v h => by
    simp only [d_xdivmod_2, List.mem_cons, List.not_mem_nil, or_false] at hq
    rcases hq with rfl | rfl
    ·exact (fun h => h) h
    ·exact (fun h => h) h)) (lbase (onJ [1] (sCut (q := (fun ι => Q R ι)) (n := L) (k := k) (fun _ _ h => ArrO.rw h) rfl (by omega) (by omega)))
   lnil)))))))))))
  (ins_ok [.fact 0 (.one (.s)), .fact 1 (.one (.s))] ⟨fun _ _ h => Rw.is (sz := 4) (F := (fun ι w v => DecQ w v ((a 0 ι)) k)) (n := (N 0)) h, fun _ _ h => Rw.is (sz := 4) (F := (fun ι w v => DecQ w v (b ι) l)) (n := m) h, trivial⟩) (fun _ _ _ h => h)
end Go.Proofs.YteblgmjpociffaaGreat.Sym
namespace Go.Proofs.YteblgmjpociffaaGreat.Sym
open Go.RowKit
def rq (x b : Nat -> Rat) (n m : Nat) : Nat -> Nat -> Rat
 | 0, p => x p
 | j + 1, p => rq x b n m j p - (if m - 1 - j <= p then rq x b n m j (m - 1 - j + n) / b n * b (p - (m - 1 - j)) else 0)
def rqQ (x b : Nat -> Rat) (n m p : Nat) : Rat := if p < m then rq x b n m (m - 1 - p) (p + n) / b n else 0
def qsS (x b : Nat -> Rat) (n n0 : Nat) : Nat -> (Nat -> Rat) × Nat × (Nat -> Rat)
 | 0 => (x, n0, fun _ => 0)
 | j + 1 => (dX (qsS x b n n0 j).1 (qsS x b n n0 j).2.1 (sB b ((qsS x b n n0 j).1 ((qsS x b n n0 j).2.1 - 1) / b n) ((qsS x b n n0 j).2.1 - (n + 1))) ((qsS x b n n0 j).2.1 - (n + 1) + (n + 1)),
   tl (fun i => (dX (qsS x b n n0 j).1 (qsS x b n n0 j).2.1 (sB b ((qsS x b n n0 j).1 ((qsS x b n n0 j).2.1 - 1) / b n) ((qsS x b n n0 j).2.1 - (n + 1))) ((qsS x b n n0 j).2.1 - (n + 1) + (n + 1)) i).num) (max (qsS x b n n0 j).2.1 ((qsS x b n n0 j).2.1 - (n + 1) + (n + 1))),
   fun i => if i = (qsS x b n n0 j).2.1 - (n + 1) then (qsS x b n n0 j).1 ((qsS x b n n0 j).2.1 - 1) / b n else (qsS x b n n0 j).2.2 i)
section
variable {x b : Nat -> Rat} {n m n0 t : Nat}
theorem rat_zero_div (q : Rat) : 0 / q = 0 := by rw [Rat.div_def, Rat.zero_mul]
theorem rq_skip : ∀ {k}, (∀ s, t <= s -> s < t + k -> rq x b n m t (m - 1 - s + n) = 0) -> ∀ p, rq x b n m (t + k) p = rq x b n m t p
 | 0, _, _ => rfl
 | k + 1, h, p => by
  have ih := rq_skip (k := k) fun s h1 h2 => h s h1 (by omega)
  show rq x b n m (t + k) p - (if m - 1 - (t + k) <= p then rq x b n m (t + k) (m - 1 - (t + k) + n) / b n * b (p - (m - 1 - (t + k))) else 0) = _
  rw [ih, ih, h (t + k) (by omega) (by omega), rat_zero_div, Rat.zero_mul]
  split <;> rw [Rat.sub_eq_add_neg, Rat.neg_zero, Rat.add_zero]
theorem num_zero_iff {q : Rat} : q.num = 0 ↔ q = 0 := Rat.num_eq_zero
theorem dX_next {a : Nat -> Rat} {N : Nat} (hb : ∀ i, n < i -> b i = 0) (hN : n + 1 <= N) (ht : m - 1 - t = N - (n + 1)) (h : ∀ p, uptoX N a p = rq x b n m t p) (p : Nat) : dX a N (sB b (a (N - 1) / b n) (N - (n + 1))) (N - (n + 1) + (n + 1)) p = rq x b n m (t + 1) p := by
 have h1 := h (N - 1)
 rw [uptoX, if_pos (by omega)] at h1
 rw [dX, h]
 show _ = rq x b n m t p - (if m - 1 - t <= p then rq x b n m t (m - 1 - t + n) / b n * b (p - (m - 1 - t)) else 0)
 rw [ht, show N - (n + 1) + n = N - 1 by omega, <- h1, uptoX, sB]
 congr 1
 by_cases h2 : N - (n + 1) <= p
 ·rw [if_pos h2]
  by_cases h3 : p < N - (n + 1) + (n + 1)
  ·rw [if_pos h3, if_neg (by omega), Rat.mul_comm]
  ·rw [if_neg h3, hb (p - (N - (n + 1))) (by omega), Rat.mul_zero]
 ·rw [if_neg h2, if_pos (by omega), if_pos (by omega)]
theorem qs_inv (hx : ∀ i, n0 <= i -> x i = 0) (hx0 : 0 < n0 -> x (n0 - 1) ≠ 0) (hb : ∀ i, n < i -> b i = 0) (hb0 : b n ≠ 0) : ∀ j, (∀ i, i < j -> n + 1 <= (qsS x b n n0 i).2.1) ->
  (qsS x b n n0 j).2.1 + j <= n0 ∧ (∀ p, uptoX (qsS x b n n0 j).2.1 (qsS x b n n0 j).1 p = rq x b n (n0 - n) (min (n0 - (qsS x b n n0 j).2.1) (n0 - n)) p) ∧ (0 < (qsS x b n n0 j).2.1 -> (qsS x b n n0 j).1 ((qsS x b n n0 j).2.1 - 1) ≠ 0) ∧
  (∀ p, (qsS x b n n0 j).2.2 p = if n0 - n - min (n0 - (qsS x b n n0 j).2.1) (n0 - n) <= p then rqQ x b n (n0 - n) p else 0)
 | 0, _ => by
  have key : ∀ p, uptoX n0 x p = x p := fun p => by
   unfold uptoX
   split
   ·rfl
   ·exact (hx p (by omega)).symm
  have e0 : min (n0 - n0) (n0 - n) = 0 := by omega
  refine ⟨Nat.le_refl _, fun p => ?_, hx0, fun p => ?_⟩
  ·show uptoX n0 x p = rq x b n (n0 - n) (min (n0 - n0) (n0 - n)) p
   rw [e0]; exact key p
  ·show (0 : Rat) = if n0 - n - min (n0 - n0) (n0 - n) <= p then rqQ x b n (n0 - n) p else 0
   rw [e0, rqQ]
   split
   ·rw [if_neg (by omega)]
   ·rfl
 | j + 1, hj => by
  obtain ⟨i1, i2, i3, i4⟩ := qs_inv hx hx0 hb hb0 j fun i hi => hj i (by omega)
  have hN := hj j (by omega)
  obtain ⟨N, hNe⟩ : ∃ N, (qsS x b n n0 j).2.1 = N := ⟨_, rfl⟩
  obtain ⟨N', hNe'⟩ : ∃ N, (qsS x b n n0 (j + 1)).2.1 = N := ⟨_, rfl⟩
  obtain ⟨a, ha⟩ : ∃ a, (qsS x b n n0 j).1 = a := ⟨_, rfl⟩
  obtain ⟨a', ha'⟩ : ∃ a, (qsS x b n n0 (j + 1)).1 = a := ⟨_, rfl⟩
  have hT : N' = tl (fun i => (a' i).num) N := by
   rw [<- hNe', <- ha', <- hNe]
   show tl _ (max (qsS x b n n0 j).2.1 ((qsS x b n n0 j).2.1 - (n + 1) + (n + 1))) = _
   rw [show max (qsS x b n n0 j).2.1 ((qsS x b n n0 j).2.1 - (n + 1) + (n + 1)) = (qsS x b n n0 j).2.1 by omega]
   rfl
  have hQ : ∀ p, (qsS x b n n0 (j + 1)).2.2 p = if p = N - (n + 1) then a (N - 1) / b n else (qsS x b n n0 j).2.2 p := fun p => by
   rw [<- hNe, <- ha]; rfl
  have hd : ∀ p, a' p = dX a N (sB b (a (N - 1) / b n) (N - (n + 1))) (N - (n + 1) + (n + 1)) p := fun p => by
   rw [<- ha', <- hNe, <- ha]; rfl
  rw [hNe] at i1 i2 i3 i4 hN
  rw [ha] at i2 i3
  rw [hNe', ha']
  have hm0 : min (n0 - N) (n0 - n) = n0 - N := by omega
  rw [hm0] at i2 i4
  have h5 : ∀ p, a' p = rq x b n (n0 - n) (n0 - N + 1) p := fun p => by
   rw [hd]; exact dX_next hb hN (by omega) i2 p
  have hout : ∀ p, N <= p -> a' p = 0 := fun p hp => by
   rw [hd, dX, uptoX, uptoX, if_neg (by omega), if_neg (by omega)]; exact Rat.sub_self
  have htop : a' (N - 1) = 0 := by
   rw [hd, dX, uptoX, uptoX, if_pos (by omega), if_pos (by omega), sB, if_neg (by omega), show N - 1 - (N - (n + 1)) = n by omega, Rat.mul_comm, Rat.div_mul_cancel hb0]
   exact Rat.sub_self
  have hle := tl_le (fun i => (a' i).num) N
  have hlt : N' < N := by
   rcases Nat.lt_or_ge N' N with h | h
   ·exact h
   ·have h1 := tl_last (fun i => (a' i).num) N (by omega)
    rw [<- hT, show N' = N by omega] at h1
    exact absurd (congrArg Rat.num htop) h1
  have hz : ∀ p, N' <= p -> a' p = 0 := fun p hp => by
   rcases Nat.lt_or_ge p N with h | h
   ·exact num_zero_iff.1 (tl_zero (fun i => (a' i).num) N p (by omega) h)
   ·exact hout p h
  have hup : ∀ p, uptoX N' a' p = a' p := fun p => by
   unfold uptoX
   split
   ·rfl
   ·exact (hz p (by omega)).symm
  have hsk : ∀ t', n0 - N + 1 <= t' -> t' <= n0 - N' -> t' <= n0 - n -> ∀ p, rq x b n (n0 - n) t' p = a' p := fun t' h1 h2 h3 p => by
   obtain ⟨k, rfl⟩ := Nat.le.dest h1
   rw [rq_skip (fun s h4 h6 => ?_) p, h5]
   rw [<- h5]
   exact hz _ (by omega)
  have hl0 : n0 - N + 1 <= min (n0 - N') (n0 - n) := by omega
  refine ⟨by omega, fun p => ?_, fun h => ?_, fun p => ?_⟩
  ·rw [hup, hsk _ hl0 (by omega) (by omega)]
  ·have h1 := tl_last (fun i => (a' i).num) N (by omega)
   rw [<- hT] at h1
   exact fun e => h1 (congrArg Rat.num e)
  ·rw [hQ, i4]
   by_cases h1 : p = N - (n + 1)
   ·rw [if_pos h1, if_pos (by omega), rqQ, if_pos (by omega)]
    have h2 := i2 (N - 1)
    rw [uptoX, if_pos (by omega)] at h2
    rw [h2, show n0 - n - 1 - p = n0 - N by omega, show p + n = N - 1 by omega]
   ·rw [if_neg h1]
    by_cases h2 : n0 - n - (n0 - N) <= p
    ·rw [if_pos h2, if_pos (by omega)]
    ·rw [if_neg h2]
     by_cases h3 : n0 - n - min (n0 - N') (n0 - n) <= p
     ·rw [if_pos h3, rqQ, if_pos (by omega), hsk (n0 - n - 1 - p) (by omega) (by omega) (by omega), hz _ (by omega), rat_zero_div]
     ·rw [if_neg h3]
end
section
variable {z y : Nat -> Int} {n m kz ky : Nat} {c : Int}
theorem rq_rd (hy : y n = c) (hc : c ≠ 0) : ∀ j p, rq (fun i => ((z i : Int) : Rat)) (fun i => ((y i : Int) : Rat)) n m j p * ((c ^ j : Int) : Rat) = ((rdR z y n m c j p : Int) : Rat)
 | 0, p => by
  show ((z p : Int) : Rat) * ((c ^ 0 : Int) : Rat) = ((z p : Int) : Rat)
  rw [Int.pow_zero]; exact Rat.mul_one _
 | j + 1, p => by
  have h1 := rq_rd hy hc j p
  have h2 := rq_rd hy hc j (m - 1 - j + n)
  have hc' : ((c : Int) : Rat) ≠ 0 := fun e => hc (by exact_mod_cast e)
  rw [rdR]
  show (rq (fun i => ((z i : Int) : Rat)) (fun i => ((y i : Int) : Rat)) n m j p - (if m - 1 - j <= p then rq (fun i => ((z i : Int) : Rat)) (fun i => ((y i : Int) : Rat)) n m j (m - 1 - j + n) / ((y n : Int) : Rat) * ((y (p - (m - 1 - j)) : Int) : Rat) else 0)) * ((c ^ (j + 1) : Int) : Rat) = _
  rw [hy, Rat.intCast_sub, Rat.intCast_mul, Int.pow_succ, Rat.intCast_mul, <- h1]
  have h3 := Rat.div_mul_cancel (a := rq (fun i => ((z i : Int) : Rat)) (fun i => ((y i : Int) : Rat)) n m j (m - 1 - j + n)) hc'
  split
  ·rw [Rat.intCast_mul, <- h2, <- h3]
   rw [h3]
   grind
  ·rw [Rat.intCast_zero]
   grind
theorem bd_quot {q : Rat} {u v : Int} {i j : Nat} (hv : v ≠ 0) (h : q * ((v : Int) : Rat) = ((u : Int) : Rat)) (hu : Bd u.natAbs i) (hv' : Bd v.natAbs j) : Bd q.num.natAbs i ∧ Bd q.den j := by
 have hv2 : ((v : Int) : Rat) ≠ 0 := fun e => hv (by exact_mod_cast e)
 have e : q = Rat.divInt u v := by
  rw [Rat.divInt_eq_div, <- h, Rat.div_def, Rat.mul_assoc, Rat.mul_inv_cancel _ hv2, Rat.mul_one]
 rw [e, Rat.num_divInt, Rat.den_divInt, if_neg hv]
 refine ⟨hu.le (Nat.le_trans (Int.natAbs_ediv_le_natAbs _ _) ?_), hv'.le (Nat.div_le_self _ _)⟩
 rw [Int.natAbs_mul, Int.natAbs_sign_of_ne_zero hv, Nat.one_mul]
 exact Nat.le_refl _
theorem rdR_bd (hz : ∀ p, Bd (z p).natAbs kz) (hy : ∀ p, Bd (y p).natAbs ky) (hc : Bd c.natAbs ky) : ∀ j p, Bd (rdR z y n m c j p).natAbs (kz + j * (ky + 1))
 | 0, p => (hz p).more (by omega)
 | j + 1, p => by
  rw [rdR, Nat.succ_mul]
  split
  ·exact (Bd.msub (rdR_bd hz hy hc j p) hc (rdR_bd hz hy hc j _) (hy _)).more (by omega)
  ·rw [Int.sub_zero, Int.natAbs_mul]
   exact (Bd.mul (rdR_bd hz hy hc j p) hc).more (by omega)
theorem rq_bd (hyn : y n = c) (hc0 : c ≠ 0) (hz : ∀ p, Bd (z p).natAbs kz) (hy : ∀ p, Bd (y p).natAbs ky) (j p : Nat) : Bd (rq (fun i => ((z i : Int) : Rat)) (fun i => ((y i : Int) : Rat)) n m j p).num.natAbs (kz + j * (ky + 1)) ∧ Bd (rq (fun i => ((z i : Int) : Rat)) (fun i => ((y i : Int) : Rat)) n m j p).den (j * ky + 1) := by
 have hc : Bd c.natAbs ky := hyn ▸ hy n
 exact bd_quot (Int.pow_ne_zero hc0) (rq_rd hyn hc0 j p) (rdR_bd hz hy hc j p) (by rw [Int.natAbs_pow]; exact Bd.powD hc j)
theorem rqc_bd (hyn : y n = c) (hc0 : c ≠ 0) (hz : ∀ p, Bd (z p).natAbs kz) (hy : ∀ p, Bd (y p).natAbs ky) (j p : Nat) (t : Int) (ht : Bd t.natAbs ky) : Bd (rq (fun i => ((z i : Int) : Rat)) (fun i => ((y i : Int) : Rat)) n m j p / ((c : Int) : Rat) * ((t : Int) : Rat)).num.natAbs (kz + j * (ky + 1) + ky) ∧ Bd (rq (fun i => ((z i : Int) : Rat)) (fun i => ((y i : Int) : Rat)) n m j p / ((c : Int) : Rat) * ((t : Int) : Rat)).den ((j + 1) * ky + 1) := by
 have hc : Bd c.natAbs ky := hyn ▸ hy n
 have hc' : ((c : Int) : Rat) ≠ 0 := fun e => hc0 (by exact_mod_cast e)
 have h2 := rq_rd (z := z) (m := m) hyn hc0 j p
 refine bd_quot (u := rdR z y n m c j p * t) (v := c ^ (j + 1)) (Int.pow_ne_zero hc0) ?_ (by rw [Int.natAbs_mul]; exact Bd.mul (rdR_bd hz hy hc j p) ht) (by rw [Int.natAbs_pow]; exact Bd.powD hc (j + 1))
 rw [Int.pow_succ, Rat.intCast_mul, Rat.intCast_mul, <- h2]
 have h3 := Rat.div_mul_cancel (a := rq (fun i => ((z i : Int) : Rat)) (fun i => ((y i : Int) : Rat)) n m j p) hc'
 grind
end
theorem tl_is {f : Nat -> Int} {n N : Nat} (hN : N <= n) (h0 : ∀ p, N <= p -> p < n -> f p = 0) (h1 : 0 < N -> f (N - 1) ≠ 0) : tl f n = N := by
 have hle := tl_le f n
 refine Nat.le_antisymm ?_ ?_
 ·rcases Nat.lt_or_ge N (tl f n) with h | h
  ·exact absurd (h0 _ (by omega) (by omega)) (tl_last f n (by omega))
  ·exact h
 ·rcases Nat.lt_or_ge (tl f n) N with h | h
  ·exact absurd (tl_zero f n (N - 1) (by omega) (by omega)) (h1 (by omega))
  ·exact h
theorem least (N : Nat -> Nat) (m : Nat) : ∀ k, (∃ R, (∀ j, j < R -> m <= N j) ∧ N R < m) ∨ ∀ j, j < k -> m <= N j
 | 0 => .inr fun _ h => by omega
 | k + 1 => by
  rcases least N m k with h | h
  ·exact .inl h
  ·rcases Nat.lt_or_ge (N k) m with h1 | h1
   ·exact .inl ⟨k, h, h1⟩
   ·refine .inr fun j hj => ?_
    rcases Nat.lt_or_ge j k with h2 | h2
    ·exact h j h2
    ·rw [show j = k by omega]; exact h1
section
variable {Φ : Nat -> World -> Value -> Prop} {p q x r n n0 kz ky kx kb K : Nat} {z y : Nat -> Int} {Z Y : Nat -> Rat}
theorem sDMod (hp : ∀ w v, Φ p w v -> Rw 4 (fun i w v => DecQ w v (Z i) kx) n0 w v) (hq : ∀ w v, Φ q w v -> Rw 4 (fun i w v => DecQ w v (Y i) kb) (n + 1) w v) (hZ : Z = fun i => ((z i : Int) : Rat)) (hY : Y = fun i => ((y i : Int) : Rat))
  (hx : Φ x = fun w v => Rw 4 (fun i w v => DecQ w v (rqQ Z Y n (n0 - n) i) K) (tl (fun i => (rqQ Z Y n (n0 - n) i).num) (n0 - n)) w v) (hr : Φ r = fun w v => Rw 4 (fun i w v => DecQ w v (rq Z Y n (n0 - n) (n0 - n) i) K) (tl (fun i => (rq Z Y n (n0 - n) (n0 - n) i).num) n) w v)
  (hn : n <= 900) (hn0 : n0 <= 1000) (hkx : kx <= K) (hkb : kb <= 1000) (hK : K <= 1000) (hbz : ∀ i, Bd (z i).natAbs kz) (hby : ∀ i, Bd (y i).natAbs ky) (hKb : kz + (n0 - n + 1) * (ky + 1) <= K) (hz0 : ∀ i, n0 <= i -> z i = 0) (hzt : 0 < n0 -> z (n0 - 1) ≠ 0) (hy0 : ∀ i, n < i -> y i = 0) (hyt : y n ≠ 0) :
  SiteOk Φ Tryz.prog ⟨39, [.fact p, .fact q], [⟨.one .s, [(0, 0, x)]⟩, ⟨.one .s, [(0, 0, r)]⟩], true⟩ := by
 have cz : ∀ {t : Int}, t ≠ 0 -> ((t : Int) : Rat) ≠ 0 := fun h e => h (by exact_mod_cast e)
 have c0 : ∀ {t : Int}, t = 0 -> ((t : Int) : Rat) = 0 := fun h => by rw [h]; rfl
 have hYn : Y n ≠ 0 := by rw [hY]; exact cz hyt
 have hY0 : ∀ i, n < i -> Y i = 0 := fun i hi => by rw [hY]; exact c0 (hy0 i hi)
 have hinv := qs_inv (x := Z) (b := Y) (n := n) (n0 := n0) (fun i hi => by rw [hZ]; exact c0 (hz0 i hi)) (fun h => by rw [hZ]; exact cz (hzt h)) hY0 hYn
 obtain ⟨R, hge, hlt⟩ : ∃ R, (∀ j, j < R -> n + 1 <= (qsS Z Y n n0 j).2.1) ∧ (qsS Z Y n n0 R).2.1 < n + 1 := by
  rcases least (fun j => (qsS Z Y n n0 j).2.1) (n + 1) (n0 + 1) with h | h
  ·exact h
  ·have h1 := (hinv n0 fun i hi => h i (by omega)).1
   have h2 := h n0 (by omega)
   omega
 have hstep : ∀ j, j < R -> (qsS Z Y n n0 j).2.1 + j <= n0 ∧ n + 1 <= (qsS Z Y n n0 j).2.1 ∧ (qsS Z Y n n0 j).1 ((qsS Z Y n n0 j).2.1 - 1) / Y n = rqQ Z Y n (n0 - n) ((qsS Z Y n n0 j).2.1 - (n + 1)) ∧ (qsS Z Y n n0 j).1 ((qsS Z Y n n0 j).2.1 - 1) / Y n ≠ 0 ∧ ∀ p, (qsS Z Y n n0 (j + 1)).1 p = rq Z Y n (n0 - n) (n0 - (qsS Z Y n n0 j).2.1 + 1) p := fun j hj => by
  obtain ⟨i1, i2, i3, -⟩ := hinv j fun i hi => hge i (by omega)
  have h1 := hge j hj
  rw [show min (n0 - (qsS Z Y n n0 j).2.1) (n0 - n) = n0 - (qsS Z Y n n0 j).2.1 by omega] at i2
  have h2 := i2 ((qsS Z Y n n0 j).2.1 - 1)
  rw [uptoX, if_pos (by omega)] at h2
  refine ⟨i1, h1, ?_, fun e => i3 (by omega) ?_, fun p => dX_next hY0 h1 (by omega) i2 p⟩
  ·rw [rqQ, if_pos (by omega), h2, show n0 - n - 1 - ((qsS Z Y n n0 j).2.1 - (n + 1)) = n0 - (qsS Z Y n n0 j).2.1 by omega, show (qsS Z Y n n0 j).2.1 - (n + 1) + n = (qsS Z Y n n0 j).2.1 - 1 by omega]
  ·have h3 := Rat.div_mul_cancel (a := (qsS Z Y n n0 j).1 ((qsS Z Y n n0 j).2.1 - 1)) hYn
   rw [e, Rat.zero_mul] at h3; exact h3.symm
 have hbq : ∀ j p, j <= n0 - n -> Bd (rq Z Y n (n0 - n) j p).num.natAbs K ∧ Bd (rq Z Y n (n0 - n) j p).den K := fun j p hj => by
  have h1 : j * (ky + 1) <= (n0 - n + 1) * (ky + 1) := Nat.mul_le_mul_right _ (by omega)
  have h2 : (j + 1) * (ky + 1) <= (n0 - n + 1) * (ky + 1) := Nat.mul_le_mul_right _ (by omega)
  have h3 : j * ky + 1 <= (j + 1) * (ky + 1) := by rw [Nat.succ_mul, Nat.mul_succ]; omega
  have h := rq_bd (z := z) (y := y) (n := n) (m := n0 - n) rfl hyt hbz hby j p
  rw [hZ, hY]
  exact ⟨h.1.more (by omega), h.2.more (by omega)⟩
 have hbc : ∀ j p (t : Int), j < n0 - n -> Bd t.natAbs ky -> Bd (rq Z Y n (n0 - n) j p / Y n * ((t : Int) : Rat)).num.natAbs K ∧ Bd (rq Z Y n (n0 - n) j p / Y n * ((t : Int) : Rat)).den K := fun j p t hj ht => by
  have h2 : (j + 1) * (ky + 1) <= (n0 - n + 1) * (ky + 1) := Nat.mul_le_mul_right _ (by omega)
  have h3 : j * (ky + 1) + ky + 1 = (j + 1) * (ky + 1) := by rw [Nat.succ_mul]; omega
  have h4 : (j + 1) * ky + 1 <= (j + 1) * (ky + 1) := by rw [Nat.mul_succ]; omega
  have h := rqc_bd (z := z) (y := y) (n := n) (m := n0 - n) rfl hyt hbz hby j p t ht
  rw [hZ, hY]
  exact ⟨h.1.more (by omega), h.2.more (by omega)⟩
 have hby1 : Bd (1 : Int).natAbs ky := by
  show 1 < 4294967296 ^ ky
  rcases Nat.eq_zero_or_pos ky with h | h
  ·have := hby n
   rw [h] at this
   have h2 : (y n).natAbs < 4294967296 ^ 0 := this
   rw [Nat.pow_zero] at h2
   exact absurd (Int.natAbs_eq_zero.1 (by omega)) hyt
  ·exact Nat.one_lt_pow (by omega) (by omega)
 have hqc : ∀ j, j < n0 - n -> ∀ p, Bd (rq Z Y n (n0 - n) j p / Y n).num.natAbs K ∧ Bd (rq Z Y n (n0 - n) j p / Y n).den K := fun j hj p => by
  have h := hbc j p 1 hj hby1
  rw [show (((1 : Int) : Int) : Rat) = 1 from rfl, Rat.mul_one] at h; exact h
 have hcj : ∀ j, j < R -> ∃ t, t < n0 - n ∧ (qsS Z Y n n0 j).1 ((qsS Z Y n n0 j).2.1 - 1) / Y n = rq Z Y n (n0 - n) t (n0 - n - 1 - t + n) / Y n := fun j hj => by
  obtain ⟨i1, i2, i3, -⟩ := hstep j hj
  rw [rqQ, if_pos (by omega)] at i3
  exact ⟨n0 - n - 1 - ((qsS Z Y n n0 j).2.1 - (n + 1)), by omega, by rw [i3, show n0 - n - 1 - (n0 - n - 1 - ((qsS Z Y n n0 j).2.1 - (n + 1))) = (qsS Z Y n n0 j).2.1 - (n + 1) by omega]⟩
 have hyc : ∀ i j, j < R -> Bd (Y i * ((qsS Z Y n n0 j).1 ((qsS Z Y n n0 j).2.1 - 1) / Y n)).num.natAbs K ∧ Bd (Y i * ((qsS Z Y n n0 j).1 ((qsS Z Y n n0 j).2.1 - 1) / Y n)).den K := fun i j hj => by
  obtain ⟨t, ht, e⟩ := hcj j hj
  rw [e, Rat.mul_comm, show Y i = ((y i : Int) : Rat) by rw [hY]]
  exact hbc t _ (y i) ht (hby i)
 have hK1 : 1 <= K := by
  have : (n0 - n + 1) * (ky + 1) = (n0 - n) * (ky + 1) + (ky + 1) := Nat.succ_mul ..
  omega
 obtain ⟨f1, f2, f3, f4⟩ := hinv R hge
 have fm : min (n0 - (qsS Z Y n n0 R).2.1) (n0 - n) = n0 - n := by omega
 rw [fm] at f2 f4
 have hQ : ∀ i, (qsS Z Y n n0 R).2.2 i = rqQ Z Y n (n0 - n) i := fun i => by rw [f4, if_pos (by omega)]
 have hN : tl (fun i => (rq Z Y n (n0 - n) (n0 - n) i).num) n = (qsS Z Y n n0 R).2.1 := by
  refine tl_is (by omega) (fun p h1 _ => ?_) fun h => ?_
  ·simp only [<- f2, uptoX]; rw [if_neg (by omega)]; rfl
  ·simp only [<- f2, uptoX]; rw [if_pos (by omega)]; exact fun e => f3 h (num_zero_iff.1 e)
 refine viaG (xdivmod (a := fun j => (qsS Z Y n n0 j).1) (N := fun j => (qsS Z Y n n0 j).2.1) (b := Y) (c := fun j => (qsS Z Y n n0 j).1 ((qsS Z Y n n0 j).2.1 - 1) / Y n) (Q := fun j => (qsS Z Y n n0 j).2.2) (m := n + 1) (R := R) (k := K) (l := kb) (L := n0 - n)
  (by omega) (by omega) ?_ hK hkb hK1 hge hlt ?_ ?_ hYn (fun _ _ => rfl) ?_ (fun j hj i _ => hyc i j hj) ?_ ?_ ?_ (fun _ _ _ => rfl) ?_ (fun _ _ => rfl) (fun _ => rfl) ?_ ?_)
  ⟨fun w v h => Rw.to (sz := 4) (n := n0) (hp w v h) fun i w v _ h => DecQ.more h hkx, hq, trivial⟩ ⟨⟨rfl, ⟨rfl, rfl, fun w v h => ?_⟩, trivial⟩, ⟨rfl, ⟨rfl, rfl, fun w v h => ?_⟩, trivial⟩, trivial⟩
 ·intro j
  have h : ∀ j, (qsS Z Y n n0 j).2.1 <= max n0 (n + 1) := fun j => by
   induction j with
   | zero => exact Nat.le_max_left _ _
   | succ j ih => exact Nat.le_trans (tl_le _ _) (by omega)
  exact Nat.le_trans (h j) (by omega)
 ·show (if n + 1 <= n0 then n0 - (n + 1) + 1 else 0) = n0 - n
  split <;> omega
 ·intro j hj
  obtain ⟨i1, i2, -⟩ := hstep j hj
  show (qsS Z Y n n0 j).2.1 - (n + 1) < n0 - n
  omega
 ·intro j hj
  obtain ⟨t, ht, e⟩ := hcj j hj
  show Bd ((qsS Z Y n n0 j).1 ((qsS Z Y n n0 j).2.1 - 1) / Y n).num.natAbs K ∧ Bd ((qsS Z Y n n0 j).1 ((qsS Z Y n n0 j).2.1 - 1) / Y n).den K
  rw [e]; exact hqc t ht _
 ·intro j hj
  refine tl_is (Nat.le_refl _) (fun p _ _ => by omega) fun _ e => ?_
  rcases Rat.mul_eq_zero.1 (num_zero_iff.1 e) with h | h
  ·exact hYn h
  ·exact (hstep j hj).2.2.2.1 h
 ·intro j hj i _
  show Bd (sB Y ((qsS Z Y n n0 j).1 ((qsS Z Y n n0 j).2.1 - 1) / Y n) _ i).num.natAbs K ∧ Bd (sB Y ((qsS Z Y n n0 j).1 ((qsS Z Y n n0 j).2.1 - 1) / Y n) _ i).den K
  unfold sB
  split
  ·exact ⟨bd_zeroD K, Nat.one_lt_pow (by omega) (by omega)⟩
  ·exact hyc _ j hj
 ·intro j hj _
  show (sB Y ((qsS Z Y n n0 j).1 ((qsS Z Y n n0 j).2.1 - 1) / Y n) ((qsS Z Y n n0 j).2.1 - (n + 1)) ((qsS Z Y n n0 j).2.1 - (n + 1) + (n + 1) - 1)).num ≠ 0
  rw [show (qsS Z Y n n0 j).2.1 - (n + 1) + (n + 1) - 1 = (qsS Z Y n n0 j).2.1 - (n + 1) + n by omega, sB_hi]
  intro e
  rcases Rat.mul_eq_zero.1 (num_zero_iff.1 e) with h | h
  ·exact hYn h
  ·exact (hstep j hj).2.2.2.1 h
 ·intro j hj i _
  obtain ⟨i1, i2, -, -, i5⟩ := hstep j hj
  show Bd ((qsS Z Y n n0 (j + 1)).1 i).num.natAbs K ∧ Bd ((qsS Z Y n n0 (j + 1)).1 i).den K
  rw [i5 i]; exact hbq _ _ (by omega)
 ·exact fun j _ => if_pos rfl
 ·exact fun j _ i h => if_neg h
 ·have e : (qsS Z Y n n0 R).2.2 = rqQ Z Y n (n0 - n) := funext hQ
  rw [hx, <- e]; exact h
 ·rw [hr, hN]
  have h : Rw 4 (fun i w v => DecQ w v ((qsS Z Y n n0 R).1 i) K) (qsS Z Y n n0 R).2.1 w v := h
  exact Rw.to h fun i w v hi h => by
   have h1 := f2 i
   rw [uptoX, if_pos hi] at h1
   rw [<- h1]; exact h
end
end Go.Proofs.YteblgmjpociffaaGreat.Sym
