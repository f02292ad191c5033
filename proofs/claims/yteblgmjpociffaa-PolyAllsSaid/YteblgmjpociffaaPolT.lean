/- poly.trim; contracts told in one list of predicates, told in another. -/
import Derived.Test.YteblgmjpociffaaPolC
namespace Go.Proofs.Yteblgmjpociffaa.Sym
open Go.RowKit
theorem cmpI_zero {z : Int} (h : cmpI z 0 = 0) : z = 0 := by
  unfold cmpI at h
  split at h
  · cases h
  · split at h
    · assumption
    · cases h
/-- Arguments that are told by other predicates. -/
def argMap (Φ Ψ : Nat → World → Value → Prop) : List Arg → List Arg → Prop
  | [], [] => True
  | .fact p :: l, .fact q :: m => (∀ w v, Φ p w v → Ψ q w v) ∧ argMap Φ Ψ l m
  | .lit a :: l, .lit b :: m => a = b ∧ argMap Φ Ψ l m
  | .lit a :: l, .fact q :: m => (∀ w, Ψ q w (a.ev env0)) ∧ argMap Φ Ψ l m
  | .any :: l, .any :: m => argMap Φ Ψ l m
  | _, _ => False
def fsMap (Ψ Φ : Nat → World → Value → Prop) : List (Nat × Nat × Nat) → List (Nat × Nat × Nat) → Prop
  | [], [] => True
  | a :: l, b :: m => (a.1 = b.1 ∧ a.2.1 = b.2.1 ∧ ∀ w v, Ψ a.2.2 w v → Φ b.2.2 w v) ∧ fsMap Ψ Φ l m
  | _, _ => False
def outMap (Ψ Φ : Nat → World → Value → Prop) : List Out → List Out → Prop
  | [], [] => True
  | a :: l, b :: m => (a.sh = b.sh ∧ fsMap Ψ Φ a.fs b.fs) ∧ outMap Ψ Φ l m
  | _, _ => False
theorem argMap.ok {Φ Ψ : Nat → World → Value → Prop} {X : Nat → Prop} {w : World} : ∀ {l m : List Arg} {vs : List Value}, argMap Φ Ψ l m → argsOk Φ X w l vs → argsOk Ψ X w m vs
  | [], [], [], _, _ => trivial
  | .fact _ :: _, .fact _ :: _, _ :: _, h, ha => ⟨fun w1 hw => h.1 _ _ (ha.1 w1 hw), argMap.ok h.2 ha.2⟩
  | .lit _ :: _, .lit _ :: _, _ :: _, h, ha => ⟨h.1 ▸ ha.1, argMap.ok h.2 ha.2⟩
  | .any :: _, .any :: _, _ :: _, h, ha => ⟨trivial, argMap.ok h ha.2⟩
  | .lit _ :: _, .fact _ :: _, _ :: _, h, ha => ⟨fun w1 _ => by rw [show _ = _ from ha.1]; exact h.1 w1, argMap.ok h.2 ha.2⟩
theorem fsMap.ok {Φ Ψ : Nat → World → Value → Prop} {X : Nat → Prop} {w : World} {v : Value} : ∀ {l m : List (Nat × Nat × Nat)}, fsMap Ψ Φ l m → (∀ q, q ∈ l → ∀ w1, Off X w w1 → Ψ q.2.2 w1 (subV q.1 q.2.1 v)) → ∀ q, q ∈ m → ∀ w1, Off X w w1 → Φ q.2.2 w1 (subV q.1 q.2.1 v)
  | [], [], _, _, q, hq, _, _ => by cases hq
  | a :: l, b :: m, h, ha, q, hq, w1, hw => by
    rcases List.mem_cons.1 hq with rfl | hq
    · have := ha a (List.mem_cons_self ..) w1 hw
      rw [← h.1.1, ← h.1.2.1]
      exact h.1.2.2 _ _ this
    · exact fsMap.ok h.2 (fun q hq => ha q (List.mem_cons_of_mem _ hq)) q hq w1 hw
theorem outMap.ok {Φ Ψ : Nat → World → Value → Prop} {X : Nat → Prop} {w : World} : ∀ {l m : List Out} {us : List Value}, outMap Ψ Φ l m → outsOk Ψ X w l us → outsOk Φ X w m us
  | [], [], [], _, _ => trivial
  | _ :: _, _ :: _, _ :: _, h, ha => ⟨⟨h.1.1 ▸ ha.1.1, fsMap.ok h.1.2 ha.1.2⟩, outMap.ok h.2 ha.2⟩
theorem viaG {P : Program} {Φ Ψ : Nat → World → Value → Prop} {f : FuncId} {ar ar' : List Arg} {outs outs' : List Out} {tup : Bool} (h : SiteOk Ψ P ⟨f, ar', outs', .call tup⟩) (ha : argMap Φ Ψ ar ar') (ho : outMap Ψ Φ outs' outs) : SiteOk Φ P ⟨f, ar, outs, .call tup⟩ :=
  fun X w vs hX h' => (h X w vs hX (ha.ok h')).mono fun _ _w' ⟨hg, us, he, h2⟩ => ⟨hg, us, he, ho.ok h2⟩
def b_trim_0 (F : Nat → World → Value → Prop) (z : Nat → Int) (n0 : Nat) : List (World → Value → Prop) := [fun w v => Rw 2 F n0 w v, fun _ v => v = .int .i64 ((n0 : Nat) : Int), fun _ v => v = .int .i64 ((tl z n0 : Nat) : Int), fun w v => Rw 2 F (tl z n0) w v]
def l_trim_0_1 (F : Nat → World → Value → Prop) (z : Nat → Int) (n0 : Nat) (j : Nat) : List (World → Value → Prop) := [fun _ v => v = .int .i64 (((n0 - j) : Nat) : Int), fun _ v => v = .int .i64 (((n0 - (j + 1)) : Nat) : Int), fun w v => Ptr 2 (F (n0 - (j + 1))) w v, F (n0 - (j + 1)), fun w v => NorV w v 0 0, fun _ v => v = .int .i64 (cmpI (z (n0 - (j + 1))) (0 : Int)), fun _ v => v = .int .i64 (((n0 - (j + 1)) : Nat) : Int)]
def d_trim_0_1 : LoopD := ⟨[0, 2, 4, 5], [(.slot 3, .i)], [(.one 0, 4)], [.from 1], 4, [(4, 2)]⟩
def r_trim_0_1_0 : List Step := [.derive (.agg [.cb false, .nl]) (.agg [.lit (.cb false), .lit (.nl)]) [] 8,
      .base ⟨0, [.fact 4, .lit (.ci .i64 0)], [⟨.one (.lit (.cb true)), []⟩], .quiet (mBin .gtr)⟩,
      .base ⟨0, [.fact 4, .lit (.ci .i64 1)], [⟨.one (.i), [(0, 0, 5)]⟩], .quiet (mBin .sub)⟩,
      .base ⟨0, [.fact 0, .fact 5], [⟨.one (.p), [(0, 0, 6)]⟩], .quiet (mIdx 23)⟩,
      .base ⟨0, [.fact 6], [⟨.agg [.b, .s], [(0, 0, 7)]⟩], .quiet (mLoad 36)⟩,
      .base ⟨58, [.fact 7, .fact 8], [⟨.one (.i), [(0, 0, 9)]⟩], false⟩,
      .base ⟨0, [.fact 9, .lit (.ci .i64 0)], [⟨.one (.lit (.cb true)), []⟩], .quiet (mBin .eql)⟩,
      .base ⟨0, [.fact 4, .lit (.ci .i64 1)], [⟨.one (.i), [(0, 0, 10)]⟩], .quiet (mBin .sub)⟩]
def o_trim_0_1 : List Step := [.base ⟨0, [.fact 4, .lit (.ci .i64 0)], [⟨.one (.lit (.cb false)), []⟩], .quiet (mBin .gtr)⟩]
def ss_trim_0 : List Step := [.base ⟨0, [.fact 0], [⟨.one (.i), [(0, 0, 1)]⟩], .quiet (mLen 23)⟩,
      .loop d_trim_0_1 [(r_trim_0_1_0, [.from 10])] o_trim_0_1,
      .base ⟨0, [.fact 0, .fact 2], [⟨.one (.s), [(0, 0, 3)]⟩], .quiet (mTo' 23)⟩]
def ins_trim_0 : List Out := [⟨.one (.s), [(0, 0, 0)]⟩]
set_option maxRecDepth 100000 in
theorem trim_0 {F : Nat → World → Value → Prop} {z : Nat → Int} {n0 k : Nat} (hF : ∀ i w v, F i w v → IntV w v (z i) k) (hK : ∀ i w w1 v, Kp w w1 → F i w v → F i w1 v) (hn : n0 ≤ 1000000) (hk : k ≤ 500000) (ht : tl z n0 = 0) : SiteOk (ph (b_trim_0 F z n0)) Try.prog ⟨51, [.fact 0], [⟨.one (.s), [(0, 0, 3)]⟩], false⟩ := by
  have hle := tl_le z n0
  exact fn_okL ins_trim_0 [⟨.one (.s), [(0, 0, 3)]⟩] ss_trim_0 Try.func51 (by kernel_rfl)
    (lbase (qLen (sz := 2) (n := n0) (F := F) Try.underlying23 (fun _ _ h => Rw.arr h) rfl)
      (lloop (counted (n0 - tl z n0) (fun j => ph (b_trim_0 F z n0 ++ l_trim_0_1 F z n0 j)) (fun _ => 0) (fun j p hp => ph_app' (show p < (b_trim_0 F z n0).length from hp)) ⟨fun _ _ h => h, trivial⟩ (fun j hj => by
      have h0 : z (n0 - (j + 1)) = 0 := tl_zero z n0 _ (by omega) (by omega)
      exact ⟨(r_trim_0_1_0, [.from 10]), rfl, ⟨fun _ _ h => h, trivial⟩, (lderive (derive0 rfl)
      (lbase (qTestC (op := .gtr) (fun _ _ h => h) (ts_run (decide_eq_true (by omega)) (by simp)))
      (lbase (qSubK (fun _ _ h => h) (by omega) rfl (by omega) (by omega))
      (lbase (qIdx (i := (n0 - (j + 1))) (sz := 2) (n := n0) (F := F) Try.underlying23 (by kernel_rfl) (fun _ _ h => Rw.arr h) (fun _ _ h => h) (by omega) rfl)
      (lbase (qLoad (sz := 2) (F := F (n0 - (j + 1))) (by kernel_rfl) (by kernel_rfl) (fun _ _ h => h) (fun w w1 v g h => hK (n0 - (j + 1)) w w1 v g h) (fun w v h => IntV.is (hF (n0 - (j + 1)) w v h)) rfl)
      (lbase (sCmpJ (fun w v => hF (n0 - (j + 1)) w v) nI rfl (by omega) rfl)
      (lbase (qTestC (op := .eql) (fun _ _ h => h) (ts_run (decide_eq_true (by rw [h0]; rfl)) (by simp)))
      (lbase (qSubK (fun _ _ h => h) (by omega) rfl (by omega) (by omega))
      lnil))))))))⟩)
      (by
      have hle := tl_le z n0
      exact (lbase (qTestC (op := .gtr) (fun _ _ h => h) (ts_run (decide_eq_false (by omega)) (by simp)))
      lnil))
      (fun q hq w v h => by
        simp only [d_trim_0_1, List.mem_cons, List.not_mem_nil, or_false] at hq
        rcases hq with rfl
        · exact (fun h => h.trans (congrArg (Value.int .i64) (by have := tl_le z n0; omega))) h)) (lbase (qToA (m := (tl z n0)) (n := n0) (F := F) Try.underlying23 (by kernel_rfl) (fun _ _ h => h) (fun _ _ h => h) (by first | omega | exact tl_le _ _) rfl)
      lnil)))
    (ins_ok [.fact 0 (.one (.s))] ⟨fun _ _ h => Rw.is (sz := 2) (F := F) (n := n0) h, trivial⟩) (fun _ _ _ h => h)

def b_trim_p (F : Nat → World → Value → Prop) (z : Nat → Int) (n0 : Nat) : List (World → Value → Prop) := [fun w v => Rw 2 F n0 w v, fun _ v => v = .int .i64 ((n0 : Nat) : Int), fun _ v => v = .int .i64 ((tl z n0 : Nat) : Int), fun w v => Rw 2 F (tl z n0) w v]
def l_trim_p_1 (F : Nat → World → Value → Prop) (z : Nat → Int) (n0 : Nat) (j : Nat) : List (World → Value → Prop) := [fun _ v => v = .int .i64 (((n0 - j) : Nat) : Int), fun _ v => v = .int .i64 (((n0 - (j + 1)) : Nat) : Int), fun w v => Ptr 2 (F (n0 - (j + 1))) w v, F (n0 - (j + 1)), fun w v => NorV w v 0 0, fun _ v => v = .int .i64 (cmpI (z (n0 - (j + 1))) (0 : Int)), fun _ v => v = .int .i64 (((n0 - (j + 1)) : Nat) : Int), fun _ v => v = .int .i64 (((tl z n0 - 1) : Nat) : Int), fun w v => Ptr 2 (F (tl z n0 - 1)) w v, F (tl z n0 - 1), fun w v => NorV w v 0 0, fun _ v => v = .int .i64 (cmpI (z (tl z n0 - 1)) (0 : Int))]
def d_trim_p_1 : LoopD := ⟨[0, 2, 4, 5], [(.slot 3, .i)], [(.one 0, 4)], [.from 1], 4, [(4, 2)]⟩
def r_trim_p_1_0 : List Step := [.derive (.agg [.cb false, .nl]) (.agg [.lit (.cb false), .lit (.nl)]) [] 8,
      .base ⟨0, [.fact 4, .lit (.ci .i64 0)], [⟨.one (.lit (.cb true)), []⟩], .quiet (mBin .gtr)⟩,
      .base ⟨0, [.fact 4, .lit (.ci .i64 1)], [⟨.one (.i), [(0, 0, 5)]⟩], .quiet (mBin .sub)⟩,
      .base ⟨0, [.fact 0, .fact 5], [⟨.one (.p), [(0, 0, 6)]⟩], .quiet (mIdx 23)⟩,
      .base ⟨0, [.fact 6], [⟨.agg [.b, .s], [(0, 0, 7)]⟩], .quiet (mLoad 36)⟩,
      .base ⟨58, [.fact 7, .fact 8], [⟨.one (.i), [(0, 0, 9)]⟩], false⟩,
      .base ⟨0, [.fact 9, .lit (.ci .i64 0)], [⟨.one (.lit (.cb true)), []⟩], .quiet (mBin .eql)⟩,
      .base ⟨0, [.fact 4, .lit (.ci .i64 1)], [⟨.one (.i), [(0, 0, 10)]⟩], .quiet (mBin .sub)⟩]
def o_trim_p_1 : List Step := [.derive (.agg [.cb false, .nl]) (.agg [.lit (.cb false), .lit (.nl)]) [] 14,
      .base ⟨0, [.fact 4, .lit (.ci .i64 0)], [⟨.one (.lit (.cb true)), []⟩], .quiet (mBin .gtr)⟩,
      .base ⟨0, [.fact 4, .lit (.ci .i64 1)], [⟨.one (.i), [(0, 0, 11)]⟩], .quiet (mBin .sub)⟩,
      .base ⟨0, [.fact 0, .fact 11], [⟨.one (.p), [(0, 0, 12)]⟩], .quiet (mIdx 23)⟩,
      .base ⟨0, [.fact 12], [⟨.agg [.b, .s], [(0, 0, 13)]⟩], .quiet (mLoad 36)⟩,
      .base ⟨58, [.fact 13, .fact 14], [⟨.one (.i), [(0, 0, 15)]⟩], false⟩,
      .base ⟨0, [.fact 15, .lit (.ci .i64 0)], [⟨.one (.lit (.cb false)), []⟩], .quiet (mBin .eql)⟩]
def ss_trim_p : List Step := [.base ⟨0, [.fact 0], [⟨.one (.i), [(0, 0, 1)]⟩], .quiet (mLen 23)⟩,
      .loop d_trim_p_1 [(r_trim_p_1_0, [.from 10])] o_trim_p_1,
      .base ⟨0, [.fact 0, .fact 2], [⟨.one (.s), [(0, 0, 3)]⟩], .quiet (mTo' 23)⟩]
def ins_trim_p : List Out := [⟨.one (.s), [(0, 0, 0)]⟩]
set_option maxRecDepth 100000 in
theorem trim_p {F : Nat → World → Value → Prop} {z : Nat → Int} {n0 k : Nat} (hF : ∀ i w v, F i w v → IntV w v (z i) k) (hK : ∀ i w w1 v, Kp w w1 → F i w v → F i w1 v) (hn : n0 ≤ 1000000) (hk : k ≤ 500000) (ht : 0 < tl z n0) : SiteOk (ph (b_trim_p F z n0)) Try.prog ⟨51, [.fact 0], [⟨.one (.s), [(0, 0, 3)]⟩], false⟩ := by
  have hle := tl_le z n0
  exact fn_okL ins_trim_p [⟨.one (.s), [(0, 0, 3)]⟩] ss_trim_p Try.func51 (by kernel_rfl)
    (lbase (qLen (sz := 2) (n := n0) (F := F) Try.underlying23 (fun _ _ h => Rw.arr h) rfl)
      (lloop (counted (n0 - tl z n0) (fun j => ph (b_trim_p F z n0 ++ l_trim_p_1 F z n0 j)) (fun _ => 0) (fun j p hp => ph_app' (show p < (b_trim_p F z n0).length from hp)) ⟨fun _ _ h => h, trivial⟩ (fun j hj => by
      have h0 : z (n0 - (j + 1)) = 0 := tl_zero z n0 _ (by omega) (by omega)
      exact ⟨(r_trim_p_1_0, [.from 10]), rfl, ⟨fun _ _ h => h, trivial⟩, (lderive (derive0 rfl)
      (lbase (qTestC (op := .gtr) (fun _ _ h => h) (ts_run (decide_eq_true (by omega)) (by simp)))
      (lbase (qSubK (fun _ _ h => h) (by omega) rfl (by omega) (by omega))
      (lbase (qIdx (i := (n0 - (j + 1))) (sz := 2) (n := n0) (F := F) Try.underlying23 (by kernel_rfl) (fun _ _ h => Rw.arr h) (fun _ _ h => h) (by omega) rfl)
      (lbase (qLoad (sz := 2) (F := F (n0 - (j + 1))) (by kernel_rfl) (by kernel_rfl) (fun _ _ h => h) (fun w w1 v g h => hK (n0 - (j + 1)) w w1 v g h) (fun w v h => IntV.is (hF (n0 - (j + 1)) w v h)) rfl)
      (lbase (sCmpJ (fun w v => hF (n0 - (j + 1)) w v) nI rfl (by omega) rfl)
      (lbase (qTestC (op := .eql) (fun _ _ h => h) (ts_run (decide_eq_true (by rw [h0]; rfl)) (by simp)))
      (lbase (qSubK (fun _ _ h => h) (by omega) rfl (by omega) (by omega))
      lnil))))))))⟩)
      (by
      have hle := tl_le z n0; have hl := tl_last z n0 ht
      exact (lderive (derive0 rfl)
      (lbase (qTestC (op := .gtr) (fun _ _ h => h) (ts_run (decide_eq_true (by omega)) (by simp)))
      (lbase (qSubK (fun _ _ h => h) (by omega) rfl (by omega) (by omega))
      (lbase (qIdx (i := (tl z n0 - 1)) (sz := 2) (n := n0) (F := F) Try.underlying23 (by kernel_rfl) (fun _ _ h => Rw.arr h) (fun _ _ h => h) (by omega) rfl)
      (lbase (qLoad (sz := 2) (F := F (tl z n0 - 1)) (by kernel_rfl) (by kernel_rfl) (fun _ _ h => h) (fun w w1 v g h => hK (tl z n0 - 1) w w1 v g h) (fun w v h => IntV.is (hF (tl z n0 - 1) w v h)) rfl)
      (lbase (sCmpJ (fun w v => hF (tl z n0 - 1) w v) nI rfl (by omega) rfl)
      (lbase (qTestC (op := .eql) (fun _ _ h => h) (ts_run (decide_eq_false (fun h => hl (cmpI_zero h))) (by simp)))
      lnil))))))))
      (fun q hq w v h => by
        simp only [d_trim_p_1, List.mem_cons, List.not_mem_nil, or_false] at hq
        rcases hq with rfl
        · exact (fun h => h.trans (congrArg (Value.int .i64) (by have := tl_le z n0; omega))) h)) (lbase (qToA (m := (tl z n0)) (n := n0) (F := F) Try.underlying23 (by kernel_rfl) (fun _ _ h => h) (fun _ _ h => h) (by first | omega | exact tl_le _ _) rfl)
      lnil)))
    (ins_ok [.fact 0 (.one (.s))] ⟨fun _ _ h => Rw.is (sz := 2) (F := F) (n := n0) h, trivial⟩) (fun _ _ _ h => h)

section
variable {Φ : Nat → World → Value → Prop} {p x n k : Nat} {z : Nat → Int} {F : Nat → World → Value → Prop}
theorem sTrim (hp : ∀ w v, Φ p w v → Rw 2 F n w v) (hF : ∀ i w v, F i w v → IntV w v (z i) k) (hK : ∀ i w w1 v, Kp w w1 → F i w v → F i w1 v) (hx : Φ x = fun w v => Rw 2 F (tl z n) w v) (hn : n ≤ 1000000) (hk : k ≤ 500000) : SiteOk Φ Try.prog ⟨51, [.fact p], [⟨.one .s, [(0, 0, x)]⟩], false⟩ := by
  rcases Nat.eq_zero_or_pos (tl z n) with h | h
  · exact viaG (trim_0 hF hK hn hk h) ⟨hp, trivial⟩ ⟨⟨rfl, ⟨rfl, rfl, fun _ _ h => hx ▸ h⟩, trivial⟩, trivial⟩
  · exact viaG (trim_p hF hK hn hk h) ⟨hp, trivial⟩ ⟨⟨rfl, ⟨rfl, rfl, fun _ _ h => hx ▸ h⟩, trivial⟩, trivial⟩
end
end Go.Proofs.Yteblgmjpociffaa.Sym
