/- poly.trim told with the row's block; poly.Norm and pdiv.below, whose results lie in new memory. -/
import Derived.Test.YteblgmjpociffaaGreatPolH
import Derived.Test.YteblgmjpociffaaGreatPolW
namespace Go.Proofs.YteblgmjpociffaaGreat.Sym
open Go.RowKit
def RwV (s : Option Addr) (c sz : Nat) (F : Nat -> World -> Value -> Prop) (n : Nat) (w : World) (v : Value) : Prop := v = .slice s n c ∧ Rw sz F n w v
theorem flatten_take {sz m : Nat} : ∀ {rows : List (List Value)}, (∀ r, r ∈ rows -> r.length = sz) -> m <= rows.length -> rows.flatten.take (m * sz) = (rows.take m).flatten := fun {rows} h hm => by
 have e1 : rows.flatten = (rows.take m).flatten ++ (rows.drop m).flatten := by
  rw [<- List.flatten_append, List.take_append_drop]
 have e2 : (rows.take m).flatten.length = m * sz := by
  rw [flatten_len (sz := sz) (fun r hr => h r (List.mem_of_mem_take hr)), List.length_take, Nat.min_eq_left hm]
 rw [e1, <- e2, List.take_left]
theorem ArrO.take {sz n m c : Nat} {e : TypeId} {F : Nat -> World -> Value -> Prop} {w : World} {s : Option Addr} (h : ArrO sz e F n w (.slice s n c)) (hm : m <= n) : ArrO sz e F m w (.slice s m c) := by
 obtain ⟨rows, hl, hs, ho, hF⟩ := h
 refine ⟨rows.take m, by rw [List.length_take]; omega, fun r hr => hs r (List.mem_of_mem_take hr), ⟨⟨by rw [flatten_len (sz := sz) (fun r hr => hs r (List.mem_of_mem_take hr)), List.length_take, Nat.min_eq_left (by omega)], ?_⟩, fun g cur e' p hg hh x hx => ho.2 g cur e' p ?_ hh x hx⟩, fun i r hr => hF i r ?_⟩
 ·rcases ho.1.2 with ⟨h1, h2⟩ | ⟨g, cap, cur, h1, hb, hh, h3, h4, h5, h6⟩
  ·simp only [Value.slice.injEq] at h1
   obtain ⟨rfl, rfl, rfl⟩ := h1
   exact .inl ⟨by rw [show m = 0 by omega], by omega⟩
  ·simp only [Value.slice.injEq] at h1
   obtain ⟨rfl, -, rfl⟩ := h1
   refine .inr ⟨g, c, cur, rfl, hb, hh, by omega, h4, h5, ?_⟩
   rw [<- flatten_take hs (by omega), <- h6, List.take_take, Nat.min_eq_left (Nat.mul_le_mul_right _ hm)]
 ·simp only [Value.ownBlock] at hg ⊢
  cases s <;> exact hg
 ·rw [List.getElem?_take] at hr
  split at hr
  ·exact hr
  ·cases hr
section
variable {P : Program} {Φ : Nat -> World -> Value -> Prop} {p q x m n c0 : Nat} {s0 : Option Addr} {a b : Int}
theorem qToV {T e : TypeId} {sz : Nat} {F : Nat -> World -> Value -> Prop} (hT : P.underlying T = some (.slice e)) (hz : sizeAt P e = some sz) (hp : ∀ w v, Φ p w v -> RwV s0 c0 sz F n w v) (hq : ∀ w v, Φ q w v -> v = .int .i64 (m : Int)) (hm' : m <= n) (hx : Φ x = fun w v => RwV s0 c0 sz F m w v) : SiteOk Φ P ⟨0, [.fact p, .fact q], [⟨.one .s, [(0, 0, x)]⟩], .quiet (mTo' T)⟩ := fun X w ac o xs _ hm ha => by
 unfold mTo' at hm
 split at hm
 case h_2 => cases hm
 rename_i t y z ho
 split at hm
 case isFalse => cases hm
 rename_i ht
 subst ht
 simp only [Option.some.injEq] at hm
 subst hm
 obtain ⟨hv, s, c, hv', hc, he⟩ := hp _ _ (ha.1 w (Off.refl _ _))
 rw [hv] at hv'
 simp only [Value.slice.injEq, true_and] at hv'
 obtain ⟨rfl, rfl⟩ := hv'
 have hi2 := hq _ _ (ha.2.1 w (Off.refl _ _))
 refine ⟨.slice s0 m c0, w, ?_, grown_refl w none, one_out ⟨⟨_, _, _, rfl⟩, fun _ h => by cases h⟩ hx fun w1 hw => ⟨rfl, ?_⟩⟩
 ·unfold execOp
  have h0 : (0 : Int) <= (m : Int) := Int.natCast_nonneg m
  have h1 : (m : Int) <= (c0 : Int) := by omega
  have ha0 : (s0.map fun y => y.add 0) = s0 := by cases s0 <;> simp [Addr.add_zero']
  simp only [ho, Option.map_none, Option.map_some, hv, hi2]
  simp [Instr.sliceAt, Instr.slice, run_underlying hT, Instr.sliceBounds, run_sliceBound (P := P) w .i64 (m : Int) c0 .sliceAcap h0 h1, run_sizeOf hz, ha0]
 ·obtain ⟨hv1, s', c', hv', hc', he'⟩ := hp _ _ (ha.1 w1 hw)
  rw [hv1] at hv'
  simp only [Value.slice.injEq, true_and] at hv'
  obtain ⟨rfl, rfl⟩ := hv'
  exact ⟨s0, c0, rfl, by omega, fun i hi => he' i (by omega)⟩
theorem qMin {c : Int} (hp : ∀ w v, Φ p w v -> v = .int .i64 a) (hq : ∀ w v, Φ q w v -> v = .int .i64 b) (hc : (if b < a then b else a) = c) (hx : Φ x = fun _ v => v = .int .i64 c) : SiteOk Φ P ⟨0, [.fact p, .fact q], [⟨.one .i, [(0, 0, x)]⟩], .quiet (mMax .min)⟩ := fun X w ac o xs _ hm ha => by
 obtain ⟨args, ts, ho, rfl⟩ := mMax_op hm
 obtain ⟨u, v, huv⟩ : ∃ u v, args.toList.map ac.eval = [u, v] := by
  match args.toList.map ac.eval, ha with
  | [u, v], _ => exact ⟨u, v, rfl⟩
 rw [huv] at ha
 obtain ⟨y, z, rfl, h1, h2⟩ := list2 huv
 have e1 := hp _ _ (ha.1 w (Off.refl _ _))
 have e2 := hq _ _ (ha.2.1 w (Off.refl _ _))
 refine ⟨.int .i64 c, w, ?_, grown_refl w none, one_out (int_is c) hx fun _ _ => rfl⟩
 unfold execOp
 simp [ho, resolve, invoke, builtin, h1, h2, e1, e2, run_min_int2, hc]
theorem qSubJ {c : Int} (hp : ∀ w v, Φ p w v -> v = .int .i64 a) (hq : ∀ w v, Φ q w v -> v = .int .i64 b) (hc : a - b = c) (hx : Φ x = fun _ v => v = .int .i64 c) (h1 : -9223372036854775808 <= c) (h2 : c <= 9223372036854775807) : SiteOk Φ P ⟨0, [.fact p, .fact q], [⟨.one .i, [(0, 0, x)]⟩], .quiet (mBin .sub)⟩ := fun X w ac o xs _ hm ha => by
 obtain ⟨t, y, z, yt, ho, rfl⟩ := mBin_op hm
 refine ⟨.int .i64 c, w, ?_, grown_refl w none, one_out (int_is c) hx fun _ _ => rfl⟩
 refine bin_run ho (hp _ _ (ha.1 w (Off.refl _ _))) (hq _ _ (ha.2.1 w (Off.refl _ _))) ?_
 subst hc
 simp [binOp, Op.intArith, IntWalk.i64_in _ ⟨h1, h2⟩]
theorem qMaxD {c : Int} (hp : ∀ w v, Φ p w v -> v = .int .i64 b) (hc : (if b > a then b else a) = c) (hx : Φ x = fun _ v => v = .int .i64 c) : SiteOk Φ P ⟨0, [.lit (.ci .i64 a), .fact p], [⟨.one .i, [(0, 0, x)]⟩], .quiet (mMax .max)⟩ := fun X w ac o xs _ hm ha => by
 obtain ⟨args, ts, ho, rfl⟩ := mMax_op hm
 obtain ⟨u, v, huv⟩ : ∃ u v, args.toList.map ac.eval = [u, v] := by
  match args.toList.map ac.eval, ha with
  | [u, v], _ => exact ⟨u, v, rfl⟩
 rw [huv] at ha
 obtain ⟨y, z, rfl, h1, h2⟩ := list2 huv
 have e1 : u = .int .i64 a := ha.1
 have e2 := hp _ _ (ha.2.1 w (Off.refl _ _))
 refine ⟨.int .i64 c, w, ?_, grown_refl w none, one_out (int_is c) hx fun _ _ => rfl⟩
 unfold execOp
 simp [ho, resolve, invoke, builtin, h1, h2, e1, e2, run_max_int2, hc]
end
def b_trimV_0 (F : Nat -> World -> Value -> Prop) (z : Nat -> Int) (n0 c0 : Nat) (s0 : Option Addr) : List (World -> Value -> Prop) := [fun w v => RwV s0 c0 2 F n0 w v, fun _ v => v = .int .i64 ((n0 : Nat) : Int), fun _ v => v = .int .i64 ((tl z n0 : Nat) : Int), fun w v => RwV s0 c0 2 F (tl z n0) w v]
def l_trimV_0_1 (F : Nat -> World -> Value -> Prop) (z : Nat -> Int) (n0 : Nat) (j : Nat) : List (World -> Value -> Prop) := [fun _ v => v = .int .i64 (((n0 - j) : Nat) : Int), fun _ v => v = .int .i64 (((n0 - (j + 1)) : Nat) : Int), fun w v => Ptr 2 (F (n0 - (j + 1))) w v, F (n0 - (j + 1)), fun w v => NorV w v 0 0, fun _ v => v = .int .i64 (cmpI (z (n0 - (j + 1))) (0 : Int)), fun _ v => v = .int .i64 (((n0 - (j + 1)) : Nat) : Int)]
def d_trimV_0_1 : LoopD := ⟨[0, 2, 4, 5], [(.slot 3, .i)], [(.one 0, 4)], [.from 1], 4, [(4, 2)]⟩
def r_trimV_0_1_0 : List Step := [.derive (.agg [.cb false, .nl]) (.agg [.lit (.cb false), .lit (.nl)]) [] 8,
   .base ⟨0, [.fact 4, .lit (.ci .i64 0)], [⟨.one (.lit (.cb true)), []⟩], .quiet (mBin .gtr)⟩,
   .base ⟨0, [.fact 4, .lit (.ci .i64 1)], [⟨.one (.i), [(0, 0, 5)]⟩], .quiet (mBin .sub)⟩,
   .base ⟨0, [.fact 0, .fact 5], [⟨.one (.p), [(0, 0, 6)]⟩], .quiet (mIdx 23)⟩,
   .base ⟨0, [.fact 6], [⟨.agg [.b, .s], [(0, 0, 7)]⟩], .quiet (mLoad 26)⟩,
   .base ⟨47, [.fact 7, .fact 8], [⟨.one (.i), [(0, 0, 9)]⟩], false⟩,
   .base ⟨0, [.fact 9, .lit (.ci .i64 0)], [⟨.one (.lit (.cb true)), []⟩], .quiet (mBin .eql)⟩,
   .base ⟨0, [.fact 4, .lit (.ci .i64 1)], [⟨.one (.i), [(0, 0, 10)]⟩], .quiet (mBin .sub)⟩]
def o_trimV_0_1 : List Step := [.base ⟨0, [.fact 4, .lit (.ci .i64 0)], [⟨.one (.lit (.cb false)), []⟩], .quiet (mBin .gtr)⟩]
def ss_trimV_0 : List Step := [.base ⟨0, [.fact 0], [⟨.one (.i), [(0, 0, 1)]⟩], .quiet (mLen 23)⟩,
   .loop d_trimV_0_1 [(r_trimV_0_1_0, [.from 10])] o_trimV_0_1,
   .base ⟨0, [.fact 0, .fact 2], [⟨.one (.s), [(0, 0, 3)]⟩], .quiet (mTo' 23)⟩]
def ins_trimV_0 : List Out := [⟨.one (.s), [(0, 0, 0)]⟩]
set_option maxRecDepth 100000 in
theorem trimV_0 {F : Nat -> World -> Value -> Prop} {z : Nat -> Int} {n0 k c0 : Nat} {s0 : Option Addr} (hF : ∀ i w v, F i w v -> IntV w v (z i) k) (hK : ∀ i w w1 v, Kp w w1 -> F i w v -> F i w1 v) (hn : n0 <= 1000000) (hk : k <= 500000) (ht : tl z n0 = 0) : SiteOk (ph (b_trimV_0 F z n0 c0 s0)) Tryz.prog ⟨53, [.fact 0], [⟨.one (.s), [(0, 0, 3)]⟩], false⟩ := by
 have hle := tl_le z n0
 exact fn_okL ins_trimV_0 [⟨.one (.s), [(0, 0, 3)]⟩] ss_trimV_0 Tryz.func53 (by kernel_rfl)
  (lbase (qLen (sz := 2) (n := n0) (F := F) Tryz.underlying23 (fun _ _ h => Rw.arr h.2) rfl)
   (lloop (counted (n0 - tl z n0) (fun j => ph (b_trimV_0 F z n0 c0 s0 ++ l_trimV_0_1 F z n0 j)) (fun _ => 0) (fun j p hp => ph_app' (show p < (b_trimV_0 F z n0 c0 s0).length from hp)) ⟨fun _ _ h => h, trivial⟩ (fun j hj => by
   have h0 : z (n0 - (j + 1)) = 0 := tl_zero z n0 _ (by omega) (by omega)
   exact ⟨(r_trimV_0_1_0, [.from 10]), rfl, ⟨fun _ _ h => h, trivial⟩, (lderive (derive0 rfl)
   (lbase (qTestC (op := .gtr) (fun _ _ h => h) (ts_run (decide_eq_true (by omega)) (by simp)))
   (lbase (qSubK (fun _ _ h => h) (by omega) rfl (by omega) (by omega))
   (lbase (qIdx (i := (n0 - (j + 1))) (sz := 2) (n := n0) (F := F) Tryz.underlying23 (by kernel_rfl) (fun _ _ h => Rw.arr h.2) (fun _ _ h => h) (by omega) rfl)
   (lbase (qLoad (sz := 2) (F := F (n0 - (j + 1))) (by kernel_rfl) (by kernel_rfl) (fun _ _ h => h) (fun w w1 v g h => hK (n0 - (j + 1)) w w1 v g h) (fun w v h => IntV.is (hF (n0 - (j + 1)) w v h)) rfl)
   (lbase (sCmpJ (fun w v => hF (n0 - (j + 1)) w v) nI rfl (by omega) rfl)
   (lbase (qTestC (op := .eql) (fun _ _ h => h) (ts_run (decide_eq_true (by rw [h0]; rfl)) (by simp)))
   (lbase (qSubK (fun _ _ h => h) (by omega) rfl (by omega) (by omega))
   lnil))))))))⟩)
   (by
   have hle := tl_le z n0
   exact (lbase (qTestC (op := .gtr) (fun _ _ h => h) (ts_run (decide_eq_false (by omega)) (by simp)))
   lnil))
   (fun q hq w v h => by
    simp only [d_trimV_0_1, List.mem_cons, List.not_mem_nil, or_false] at hq
    rcases hq with rfl
    ·exact (fun h => h.trans (congrArg (Value.int .i64) (by have := tl_le z n0; omega))) h)) (lbase (qToV (m := (tl z n0)) (n := n0) (F := F) Tryz.underlying23 (by kernel_rfl) (fun _ _ h => h) (fun _ _ h => h) (by first | omega | exact tl_le _ _) rfl)
   lnil)))
  (ins_ok [.fact 0 (.one (.s))] ⟨fun _ _ h => Rw.is (sz := 2) (F := F) (n := n0) h.2, trivial⟩) (fun _ _ _ h => h)
def b_trimV_p (F : Nat -> World -> Value -> Prop) (z : Nat -> Int) (n0 c0 : Nat) (s0 : Option Addr) : List (World -> Value -> Prop) := [fun w v => RwV s0 c0 2 F n0 w v, fun _ v => v = .int .i64 ((n0 : Nat) : Int), fun _ v => v = .int .i64 ((tl z n0 : Nat) : Int), fun w v => RwV s0 c0 2 F (tl z n0) w v]
def l_trimV_p_1 (F : Nat -> World -> Value -> Prop) (z : Nat -> Int) (n0 : Nat) (j : Nat) : List (World -> Value -> Prop) := [fun _ v => v = .int .i64 (((n0 - j) : Nat) : Int), fun _ v => v = .int .i64 (((n0 - (j + 1)) : Nat) : Int), fun w v => Ptr 2 (F (n0 - (j + 1))) w v, F (n0 - (j + 1)), fun w v => NorV w v 0 0, fun _ v => v = .int .i64 (cmpI (z (n0 - (j + 1))) (0 : Int)), fun _ v => v = .int .i64 (((n0 - (j + 1)) : Nat) : Int), fun _ v => v = .int .i64 (((tl z n0 - 1) : Nat) : Int), fun w v => Ptr 2 (F (tl z n0 - 1)) w v, F (tl z n0 - 1), fun w v => NorV w v 0 0, fun _ v => v = .int .i64 (cmpI (z (tl z n0 - 1)) (0 : Int))]
def d_trimV_p_1 : LoopD := ⟨[0, 2, 4, 5], [(.slot 3, .i)], [(.one 0, 4)], [.from 1], 4, [(4, 2)]⟩
def r_trimV_p_1_0 : List Step := [.derive (.agg [.cb false, .nl]) (.agg [.lit (.cb false), .lit (.nl)]) [] 8,
   .base ⟨0, [.fact 4, .lit (.ci .i64 0)], [⟨.one (.lit (.cb true)), []⟩], .quiet (mBin .gtr)⟩,
   .base ⟨0, [.fact 4, .lit (.ci .i64 1)], [⟨.one (.i), [(0, 0, 5)]⟩], .quiet (mBin .sub)⟩,
   .base ⟨0, [.fact 0, .fact 5], [⟨.one (.p), [(0, 0, 6)]⟩], .quiet (mIdx 23)⟩,
   .base ⟨0, [.fact 6], [⟨.agg [.b, .s], [(0, 0, 7)]⟩], .quiet (mLoad 26)⟩,
   .base ⟨47, [.fact 7, .fact 8], [⟨.one (.i), [(0, 0, 9)]⟩], false⟩,
   .base ⟨0, [.fact 9, .lit (.ci .i64 0)], [⟨.one (.lit (.cb true)), []⟩], .quiet (mBin .eql)⟩,
   .base ⟨0, [.fact 4, .lit (.ci .i64 1)], [⟨.one (.i), [(0, 0, 10)]⟩], .quiet (mBin .sub)⟩]
def o_trimV_p_1 : List Step := [.derive (.agg [.cb false, .nl]) (.agg [.lit (.cb false), .lit (.nl)]) [] 14,
   .base ⟨0, [.fact 4, .lit (.ci .i64 0)], [⟨.one (.lit (.cb true)), []⟩], .quiet (mBin .gtr)⟩,
   .base ⟨0, [.fact 4, .lit (.ci .i64 1)], [⟨.one (.i), [(0, 0, 11)]⟩], .quiet (mBin .sub)⟩,
   .base ⟨0, [.fact 0, .fact 11], [⟨.one (.p), [(0, 0, 12)]⟩], .quiet (mIdx 23)⟩,
   .base ⟨0, [.fact 12], [⟨.agg [.b, .s], [(0, 0, 13)]⟩], .quiet (mLoad 26)⟩,
   .base ⟨47, [.fact 13, .fact 14], [⟨.one (.i), [(0, 0, 15)]⟩], false⟩,
   .base ⟨0, [.fact 15, .lit (.ci .i64 0)], [⟨.one (.lit (.cb false)), []⟩], .quiet (mBin .eql)⟩]
def ss_trimV_p : List Step := [.base ⟨0, [.fact 0], [⟨.one (.i), [(0, 0, 1)]⟩], .quiet (mLen 23)⟩,
   .loop d_trimV_p_1 [(r_trimV_p_1_0, [.from 10])] o_trimV_p_1,
   .base ⟨0, [.fact 0, .fact 2], [⟨.one (.s), [(0, 0, 3)]⟩], .quiet (mTo' 23)⟩]
def ins_trimV_p : List Out := [⟨.one (.s), [(0, 0, 0)]⟩]
set_option maxRecDepth 100000 in
theorem trimV_p {F : Nat -> World -> Value -> Prop} {z : Nat -> Int} {n0 k c0 : Nat} {s0 : Option Addr} (hF : ∀ i w v, F i w v -> IntV w v (z i) k) (hK : ∀ i w w1 v, Kp w w1 -> F i w v -> F i w1 v) (hn : n0 <= 1000000) (hk : k <= 500000) (ht : 0 < tl z n0) : SiteOk (ph (b_trimV_p F z n0 c0 s0)) Tryz.prog ⟨53, [.fact 0], [⟨.one (.s), [(0, 0, 3)]⟩], false⟩ := by
 have hle := tl_le z n0
 exact fn_okL ins_trimV_p [⟨.one (.s), [(0, 0, 3)]⟩] ss_trimV_p Tryz.func53 (by kernel_rfl)
  (lbase (qLen (sz := 2) (n := n0) (F := F) Tryz.underlying23 (fun _ _ h => Rw.arr h.2) rfl)
   (lloop (counted (n0 - tl z n0) (fun j => ph (b_trimV_p F z n0 c0 s0 ++ l_trimV_p_1 F z n0 j)) (fun _ => 0) (fun j p hp => ph_app' (show p < (b_trimV_p F z n0 c0 s0).length from hp)) ⟨fun _ _ h => h, trivial⟩ (fun j hj => by
   have h0 : z (n0 - (j + 1)) = 0 := tl_zero z n0 _ (by omega) (by omega)
   exact ⟨(r_trimV_p_1_0, [.from 10]), rfl, ⟨fun _ _ h => h, trivial⟩, (lderive (derive0 rfl)
   (lbase (qTestC (op := .gtr) (fun _ _ h => h) (ts_run (decide_eq_true (by omega)) (by simp)))
   (lbase (qSubK (fun _ _ h => h) (by omega) rfl (by omega) (by omega))
   (lbase (qIdx (i := (n0 - (j + 1))) (sz := 2) (n := n0) (F := F) Tryz.underlying23 (by kernel_rfl) (fun _ _ h => Rw.arr h.2) (fun _ _ h => h) (by omega) rfl)
   (lbase (qLoad (sz := 2) (F := F (n0 - (j + 1))) (by kernel_rfl) (by kernel_rfl) (fun _ _ h => h) (fun w w1 v g h => hK (n0 - (j + 1)) w w1 v g h) (fun w v h => IntV.is (hF (n0 - (j + 1)) w v h)) rfl)
   (lbase (sCmpJ (fun w v => hF (n0 - (j + 1)) w v) nI rfl (by omega) rfl)
   (lbase (qTestC (op := .eql) (fun _ _ h => h) (ts_run (decide_eq_true (by rw [h0]; rfl)) (by simp)))
   (lbase (qSubK (fun _ _ h => h) (by omega) rfl (by omega) (by omega))
   lnil))))))))⟩)
   (by
   have hle := tl_le z n0; have hl := tl_last z n0 ht
   exact (lderive (derive0 rfl)
   (lbase (qTestC (op := .gtr) (fun _ _ h => h) (ts_run (decide_eq_true (by omega)) (by simp)))
   (lbase (qSubK (fun _ _ h => h) (by omega) rfl (by omega) (by omega))
   (lbase (qIdx (i := (tl z n0 - 1)) (sz := 2) (n := n0) (F := F) Tryz.underlying23 (by kernel_rfl) (fun _ _ h => Rw.arr h.2) (fun _ _ h => h) (by omega) rfl)
   (lbase (qLoad (sz := 2) (F := F (tl z n0 - 1)) (by kernel_rfl) (by kernel_rfl) (fun _ _ h => h) (fun w w1 v g h => hK (tl z n0 - 1) w w1 v g h) (fun w v h => IntV.is (hF (tl z n0 - 1) w v h)) rfl)
   (lbase (sCmpJ (fun w v => hF (tl z n0 - 1) w v) nI rfl (by omega) rfl)
   (lbase (qTestC (op := .eql) (fun _ _ h => h) (ts_run (decide_eq_false (fun h => hl (cmpI_zero h))) (by simp)))
   lnil))))))))
   (fun q hq w v h => by
    simp only [d_trimV_p_1, List.mem_cons, List.not_mem_nil, or_false] at hq
    rcases hq with rfl
    ·exact (fun h => h.trans (congrArg (Value.int .i64) (by have := tl_le z n0; omega))) h)) (lbase (qToV (m := (tl z n0)) (n := n0) (F := F) Tryz.underlying23 (by kernel_rfl) (fun _ _ h => h) (fun _ _ h => h) (by first | omega | exact tl_le _ _) rfl)
   lnil)))
  (ins_ok [.fact 0 (.one (.s))] ⟨fun _ _ h => Rw.is (sz := 2) (F := F) (n := n0) h.2, trivial⟩) (fun _ _ _ h => h)
section
variable {Φ : Nat -> World -> Value -> Prop} {p x n k : Nat} {z : Nat -> Int} {F : Nat -> World -> Value -> Prop}
theorem sTrimV {s0 : Option Addr} {c0 : Nat} (hp : ∀ w v, Φ p w v -> RwV s0 c0 2 F n w v) (hF : ∀ i w v, F i w v -> IntV w v (z i) k) (hK : ∀ i w w1 v, Kp w w1 -> F i w v -> F i w1 v) (hx : Φ x = fun w v => RwV s0 c0 2 F (tl z n) w v) (hn : n <= 1000000) (hk : k <= 500000) : SiteOk Φ Tryz.prog ⟨53, [.fact p], [⟨.one .s, [(0, 0, x)]⟩], false⟩ := by
 rcases Nat.eq_zero_or_pos (tl z n) with h | h
 ·exact viaG (trimV_0 hF hK hn hk h) ⟨hp, trivial⟩ ⟨⟨rfl, ⟨rfl, rfl, fun _ _ h => hx ▸ h⟩, trivial⟩, trivial⟩
 ·exact viaG (trimV_p hF hK hn hk h) ⟨hp, trivial⟩ ⟨⟨rfl, ⟨rfl, rfl, fun _ _ h => hx ▸ h⟩, trivial⟩, trivial⟩
theorem sTrimL {j : Nat} (hp : ∀ w v, Φ p w v -> ArrO 2 26 F n w v) (hF : ∀ i w v, F i w v -> IntV w v (z i) k) (hK : ∀ i w w1 v, Kp w w1 -> F i w v -> F i w1 v) (hx : Φ x = fun w v => ArrO 2 26 F (tl z n) w v) (hn : n <= 1000000) (hk : k <= 500000) : SiteOk Φ Tryz.prog ⟨53, [.fact p], [⟨.one .s, [(0, 0, x)]⟩], .callL [] j 0⟩ := fun X L w vs hX hL hLX ha hb => by
 match vs, ha with
 | [v], ha =>
  have h1 := hp _ _ (ha.1 w (Off.refl _ _))
  obtain ⟨s0, c0, rfl, hc, he⟩ := h1.rw
  refine (sTrimV (Φ := ph [fun w v => RwV s0 c0 2 F n w v, fun w v => RwV s0 c0 2 F (tl z n) w v]) (p := 0) (x := 1) (s0 := s0) (c0 := c0) (fun _ _ h => h) hF hK rfl hn hk X w [.slice s0 n c0] hX ⟨fun w1 hw => ⟨rfl, (hp _ _ (ha.1 w1 hw)).rw⟩, trivial⟩).mono fun e w' ⟨hg, us, he, ho⟩ => ?_
  match us, ho with
  | [u], ho =>
   have hu := ho.1.2 _ (List.mem_singleton.2 rfl) w' (Off.refl _ _)
   obtain ⟨rfl, -⟩ : u = .slice s0 (tl z n) c0 ∧ _ := hu
   refine ⟨hg, _, he, one_out ⟨⟨_, _, _, rfl⟩, fun _ h => by cases h⟩ hx fun w1 hw => (hp _ _ (ha.1 w1 ((Off.grown hg).trans hw fun _ _ h => h))).take (tl_le z n), fun g hg' => ?_⟩
   have hg2 : blk (.slice s0 n c0) = some g := by
    revert hg'
    cases s0 <;> exact fun h => h
   have h3 := hb _ g rfl hg2
   exact ⟨Nat.lt_of_lt_of_le (hL g h3) hg.size, .inl h3⟩
end
def b_eachN_norm (z : Nat -> Int) (n k : Nat) : List (World -> Value -> Prop) := [fun w v => Rw 2 (fun ι w v => IntV w v (z ι) k) n w v, fun _ v => v = .int .i64 ((n : Nat) : Int), fun w v => ArrO 2 26 (fun ι w v => NorV w v ((upto 0 z) ι) k) n w v, fun _ v => v = .int .i64 ((n : Nat) : Int), fun w v => ArrO 2 26 (fun ι w v => NorV w v ((upto n z) ι) k) n w v, fun w v => ArrO 2 26 (fun ι w v => NorV w v ((upto n z) ι) k) (tl (upto n z) n) w v]
def l_eachN_norm_1 (z : Nat -> Int) (n k : Nat) (j : Nat) : List (World -> Value -> Prop) := [fun _ v => v = .int .i64 ((j : Nat) : Int), fun w v => ArrO 2 26 (fun ι w v => NorV w v ((upto j z) ι) k) n w v, fun _ _ => True, fun w v => Ptr 2 (fun w v => IntV w v (z j) k) w v, fun w v => IntV w v (z j) k, fun w v => NorV w v (z j) k, At 2, fun w v => Ptr 2 (fun w v => NorV w v ((upto j z) j) k) w v, fun w v => ArrO 2 26 (fun ι w v => NorV w v ((upto (j + 1) z) ι) k) n w v, fun _ v => v = .int .i64 (((j + 1) : Nat) : Int)]
def d_eachN_norm_1 : LoopD := ⟨[0, 1, 4, 8, 9, 10, 11, 12], [(.slot 13, .i), (.slot 5, .s)], [(.one 0, 6), (.one 1, .at [1] 7), (.one 1, .lo 1)], [.closed (.one (.ci .i64 0)), .from 2, .from 0], 6, [(7, 4)]⟩
def r_eachN_norm_1_0 : List Step := [.base ⟨0, [.fact 6, .fact 3], [⟨.one (.lit (.cb true)), []⟩], .quiet (mBin .lss)⟩,
   .base ⟨0, [.fact 0, .fact 6], [⟨.one (.p), [(0, 0, 9)]⟩], .quiet (mIdx 23)⟩,
   .base ⟨0, [.fact 9], [⟨.agg [.b, .s], [(0, 0, 10)]⟩], .quiet (mLoad 26)⟩,
   .base ⟨102, [.fact 10], [⟨.agg [.b, .s], [(0, 0, 11)]⟩], false⟩,
   .base ⟨0, [.fact 7, .fact 6], [⟨.one (.p), [(0, 0, 13)]⟩], .joint [1] 12 (mIdx 23)⟩,
   .base ⟨0, [.fact 7, .fact 6, .any, .fact 11], [⟨.one .s, [(0, 0, 14)]⟩], .put [] 1 0 12 (mPut 26 (.tmp 18) (.tmp 19))⟩,
   .base ⟨0, [.fact 6, .lit (.ci .i64 1)], [⟨.one (.i), [(0, 0, 15)]⟩], .quiet (mBin .add)⟩]
def o_eachN_norm_1 : List Step := [.base ⟨0, [.fact 6, .fact 3], [⟨.one (.lit (.cb false)), []⟩], .quiet (mBin .lss)⟩]
def ss_eachN_norm : List Step := [.base ⟨0, [.fact 0], [⟨.one (.i), [(0, 0, 1)]⟩], .quiet (mLen 23)⟩,
   .base ⟨0, [.fact 1, .fact 1], [⟨.one (.s), [(0, 0, 2)]⟩], .loose [] 1 0 (mMake 23)⟩,
   .base ⟨0, [.fact 0], [⟨.one (.i), [(0, 0, 3)]⟩], .quiet (mLen 23)⟩,
   .loop d_eachN_norm_1 [(r_eachN_norm_1_0, [.from 15, .from 14, .from 0])] o_eachN_norm_1,
   .base ⟨53, [.fact 4], [⟨.one (.s), [(0, 0, 5)]⟩], .callL [] 1 0⟩]
def ins_eachN_norm : List Out := [⟨.one (.s), [(0, 0, 0)]⟩, ⟨.one (.lit (.fn 102)), []⟩]
set_option maxRecDepth 100000 in
theorem eachN_norm {z : Nat -> Int} {n k : Nat} (hn : n <= 1000000) (hk : k <= 500000) : CallNOk (ph (b_eachN_norm z n k)) Tryz.prog ⟨67, [.fact 0, .lit (.fn 102)], [⟨.one (.s), [(0, 0, 5)]⟩], false⟩ := by
 skip
 exact fn_okF ins_eachN_norm [⟨.one (.s), [(0, 0, 5)]⟩] ss_eachN_norm Tryz.func67 (by kernel_rfl)
  (lbase (qLen (sz := 2) (n := n) (F := (fun ι w v => IntV w v (z ι) k)) Tryz.underlying23 (fun _ _ h => Rw.arr h) rfl)
   (lbase (qMakeI (n := n) (F := (fun ι w v => NorV w v ((upto 0 z) ι) k)) (fun _ _ h => h) (by omega) (fun i w => NorV.zero w k) rfl)
   (lbase (qLen (sz := 2) (n := n) (F := (fun ι w v => IntV w v (z ι) k)) Tryz.underlying23 (fun _ _ h => Rw.arr h) rfl)
   (lloop (counted n (fun j => ph (b_eachN_norm z n k ++ l_eachN_norm_1 z n k j)) (fun _ => 0) (fun j p hp => ph_app' (show p < (b_eachN_norm z n k).length from hp)) ⟨fun _ => rfl, fun _ _ h => h, fun _ _ _ => trivial, trivial⟩ (fun j hj => by
   skip
   exact ⟨(r_eachN_norm_1_0, [.from 15, .from 14, .from 0]), rfl, ⟨fun _ _ h => h, fun _ _ h => h, fun _ _ _ => trivial, trivial⟩, (lbase (qTest (op := .lss) (fun _ _ h => h) (fun _ _ h => h) (ts_run (decide_eq_true (by omega)) (by simp)))
   (lbase (qIdx (i := j) (sz := 2) (n := n) (F := (fun ι w v => IntV w v (z ι) k)) Tryz.underlying23 (by kernel_rfl) (fun _ _ h => Rw.arr h) (fun _ _ h => h) (by omega) rfl)
   (lbase (qLoad (sz := 2) (F := fun w v => IntV w v (z j) k) (by kernel_rfl) (by kernel_rfl) (fun _ _ h => h) (fun _ _ _ g h => IntV.kp h g) (fun _ _ h => IntV.is h) rfl)
   (lbase (sNorm iI rfl (by omega) rfl)
   (lbase (qIdxJ (i := j) (sz := 2) (n := n) (F := (fun ι w v => NorV w v ((upto j z) ι) k)) Tryz.underlying23 (by kernel_rfl) (fun _ _ h => ArrO.arr h) (fun _ _ h => h) (by omega) rfl rfl)
   (lbase (qPutR (i := j) (n := n) (F := (fun ι w v => NorV w v ((upto j z) ι) k)) (F' := (fun ι w v => NorV w v ((upto (j + 1) z) ι) k)) (G := fun w v => NorV w v (z j) k) (.tmp 18) (.tmp 19) (by kernel_rfl) (fun _ _ h => h) (fun _ _ h => h) (by omega) (fun _ _ h => h) rfl (fun _ _ h => NorV.cells h) (fun _ _ _ _ g h => NorV.kp h g) (fun _ _ _ g h => NorV.kp h g) (fun i w v hi h => by rw [upto_ne hi]; exact h) (fun w v h => h.eq (upto_self j z).symm) rfl)
   (lbase (qAddK (fun _ _ h => h) (by omega) rfl (by omega) (by omega))
   lnil)))))))⟩)
   (lbase (qTest (op := .lss) (fun _ _ h => h) (fun _ _ h => h) (ts_run (decide_eq_false (by omega)) (by simp)))
   lnil)
   (fun q hq w v h => by
    simp only [d_eachN_norm_1, List.mem_cons, List.not_mem_nil, or_false] at hq
    rcases hq with rfl
    ·exact (fun h => h) h)) (lbase (sTrimL (z := (upto n z)) (n := n) (k := k) (F := (fun ι w v => NorV w v ((upto n z) ι) k)) (fun _ _ h => h) (fun _ _ _ h => NorV.i h) (fun _ _ _ _ g h => NorV.kp h g) rfl (by omega) (by omega))
   lnil)))))
  (ins_ok [.fact 0 (.one (.s)), .lit (.fn 102)] ⟨fun _ _ h => Rw.is (sz := 2) (F := (fun ι w v => IntV w v (z ι) k)) (n := n) h, (fun _ h => by cases h), trivial⟩) (fun _ _ _ h => h)
section
variable {Φ : Nat -> World -> Value -> Prop} {p q x n l k : Nat} {J : List Nat} {j : Nat} {z : Nat -> Int} {L : List Int}
theorem aoTrim {Z : Nat -> Int} {w : World} {v : Value} (h : ArrO 2 26 (fun i w v => NorV w v (upto n Z i) k) (tl (upto n Z) n) w v) : ArrO 2 26 (fun i w v => NorV w v (coef (trimL (mk n Z)) i) k) (trimL (mk n Z)).length w v := by
 rw [trimL_mk, <- show tl (upto n Z) n = tl Z n from tl_congr fun i hi => upto_lt hi]
 exact h.to fun i w v hi h => h.eq (by
  have := tl_le (upto n Z) n
  rw [coef_trim, coef_mk, if_pos (by omega), upto_lt (by omega)])
theorem sEachN (hp : ∀ w v, Φ p w v -> Rw 2 (fun i w v => IntV w v (z i) k) n w v) (hx : Φ x = fun w v => ArrO 2 26 (fun i w v => NorV w v (coef L i) k) L.length w v) (hn : n <= 1000000) (hk : k <= 500000) (hL : trimL (mk n z) = L) : SiteOk Φ Tryz.prog ⟨67, [.fact p, .lit (.fn 102)], [⟨.one .s, [(0, 0, x)]⟩], .callN J j⟩ :=
 viaN (eachN_norm hn hk) ⟨hp, rfl, trivial⟩ ⟨⟨rfl, ⟨rfl, rfl, fun _ _ h => hx ▸ hL ▸ aoTrim h⟩, trivial⟩, trivial⟩
end
def b_pnormN (z : Nat -> Int) (n k : Nat) : List (World -> Value -> Prop) := [fun w v => Rw 2 (fun ι w v => IntV w v (z ι) k) n w v, fun w v => ArrO 2 26 (fun ι w v => NorV w v ((coef (trimL (mk n z))) ι) k) ((trimL (mk n z)).length) w v]
def ss_pnormN : List Step := [.base ⟨67, [.fact 0, .lit (.fn 102)], [⟨.one (.s), [(0, 0, 1)]⟩], .callN [] 1⟩]
def ins_pnormN : List Out := [⟨.one (.s), [(0, 0, 0)]⟩]
set_option maxRecDepth 100000 in
theorem pnormN {z : Nat -> Int} {n k : Nat} (hn : n <= 1000000) (hk : k <= 500000) : CallNOk (ph (b_pnormN z n k)) Tryz.prog ⟨93, [.fact 0], [⟨.one (.s), [(0, 0, 1)]⟩], false⟩ := by
 skip
 exact fn_okF ins_pnormN [⟨.one (.s), [(0, 0, 1)]⟩] ss_pnormN Tryz.func93 (by kernel_rfl)
  (lbase (sEachN (fun _ _ h => Rw.to (sz := 2) (n := n) (F := (fun ι w v => IntV w v (z ι) k)) (h) (fun i w v _ h => (fun _ _ _ h => h) i w v h)) rfl (by omega) (by omega) rfl)
   lnil)
  (ins_ok [.fact 0 (.one (.s))] ⟨fun _ _ h => Rw.is (sz := 2) (F := (fun ι w v => IntV w v (z ι) k)) (n := n) h, trivial⟩) (fun _ _ _ h => h)
section
variable {Φ : Nat -> World -> Value -> Prop} {p q x n l k : Nat} {J : List Nat} {j : Nat} {z : Nat -> Int} {L : List Int}
theorem sNormN (hp : ∀ w v, Φ p w v -> Rw 2 (fun i w v => IntV w v (z i) k) n w v) (hx : Φ x = fun w v => ArrO 2 26 (fun i w v => NorV w v (coef L i) k) L.length w v) (hn : n <= 1000000) (hk : k <= 500000) (hL : trimL (mk n z) = L) : SiteOk Φ Tryz.prog ⟨93, [.fact p], [⟨.one .s, [(0, 0, x)]⟩], .callN J j⟩ :=
 viaN (pnormN hn hk) ⟨hp, trivial⟩ ⟨⟨rfl, ⟨rfl, rfl, fun _ _ h => hx ▸ hL ▸ h⟩, trivial⟩, trivial⟩
end
def b_pbelow (z : Nat -> Int) (n l k : Nat) : List (World -> Value -> Prop) := [fun w v => Rw 2 (fun ι w v => IntV w v (z ι) k) l w v, fun _ v => v = .int .i64 ((n : Nat) : Int), fun _ v => v = .int .i64 ((l : Nat) : Int), fun _ v => v = .int .i64 (((min n l) : Nat) : Int), fun w v => Rw 2 (fun ι w v => IntV w v (z ι) k) (min n l) w v, fun w v => ArrO 2 26 (fun ι w v => NorV w v ((coef (trimL (mk (min n l) z))) ι) k) ((trimL (mk (min n l) z)).length) w v]
def ss_pbelow : List Step := [.base ⟨0, [.fact 0], [⟨.one (.i), [(0, 0, 2)]⟩], .quiet (mLen 23)⟩,
   .base ⟨0, [.fact 1, .fact 2], [⟨.one (.i), [(0, 0, 3)]⟩], .quiet (mMax .min)⟩,
   .base ⟨0, [.fact 0, .fact 3], [⟨.one (.s), [(0, 0, 4)]⟩], .quiet (mTo' 23)⟩,
   .base ⟨93, [.fact 4], [⟨.one (.s), [(0, 0, 5)]⟩], .callN [] 1⟩]
def ins_pbelow : List Out := [⟨.one (.s), [(0, 0, 0)]⟩, ⟨.one (.i), [(0, 0, 1)]⟩]
set_option maxRecDepth 100000 in
theorem pbelow {z : Nat -> Int} {n l k : Nat} (hn : l <= 1000000) (hk : k <= 500000) : CallNOk (ph (b_pbelow z n l k)) Tryz.prog ⟨98, [.fact 0, .fact 1], [⟨.one (.s), [(0, 0, 5)]⟩], false⟩ := by
 skip
 exact fn_okF ins_pbelow [⟨.one (.s), [(0, 0, 5)]⟩] ss_pbelow Tryz.func98 (by kernel_rfl)
  (lbase (qLen (sz := 2) (n := l) (F := (fun ι w v => IntV w v (z ι) k)) Tryz.underlying23 (fun _ _ h => Rw.arr h) rfl)
   (lbase (qMin (fun _ _ h => h) (fun _ _ h => h) (by split <;> omega) rfl)
   (lbase (qToA (m := (min n l)) (n := l) (F := (fun ι w v => IntV w v (z ι) k)) Tryz.underlying23 (by kernel_rfl) (fun _ _ h => h) (fun _ _ h => h) (by first | omega | exact tl_le _ _) rfl)
   (lbase (sNormN (fun _ _ h => Rw.to (sz := 2) (n := (min n l)) (F := (fun ι w v => IntV w v (z ι) k)) (h) (fun i w v _ h => (fun _ _ _ h => h) i w v h)) rfl (by omega) (by omega) rfl)
   lnil))))
  (ins_ok [.fact 0 (.one (.s)), .fact 1 (.one (.i))] ⟨fun _ _ h => Rw.is (sz := 2) (F := (fun ι w v => IntV w v (z ι) k)) (n := l) h, fun _ _ h => h ▸ int_is _, trivial⟩) (fun _ _ _ h => h)
section
variable {Φ : Nat -> World -> Value -> Prop} {p q x n l k : Nat} {J : List Nat} {j : Nat} {z : Nat -> Int} {L : List Int}
theorem sBelow (hp : ∀ w v, Φ p w v -> Rw 2 (fun i w v => IntV w v (z i) k) l w v) (hq : ∀ w v, Φ q w v -> v = .int .i64 (n : Int)) (hx : Φ x = fun w v => ArrO 2 26 (fun i w v => NorV w v (coef L i) k) L.length w v) (hn : l <= 1000000) (hk : k <= 500000) (hL : trimL (mk (min n l) z) = L) : SiteOk Φ Tryz.prog ⟨98, [.fact p, .fact q], [⟨.one .s, [(0, 0, x)]⟩], .callN J j⟩ :=
 viaN (pbelow hn hk) ⟨hp, hq, trivial⟩ ⟨⟨rfl, ⟨rfl, rfl, fun _ _ h => hx ▸ hL ▸ h⟩, trivial⟩, trivial⟩
end
end Go.Proofs.YteblgmjpociffaaGreat.Sym
