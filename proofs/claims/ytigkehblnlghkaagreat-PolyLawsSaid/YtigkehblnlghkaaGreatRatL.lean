/- Ratio's greatest and sum of any number: their loops by what holds at each round's head. -/
import Derived.Test.YtigkehblnlghkaaGreatRatM
namespace Go.Proofs.YtigkehblnlghkaaGreat.Sym
open Go.RowKit
section
variable (z y : Int) (ez ey : Nat → Int)
/-- The numbers of the greatest of the first j + 1. -/
def mxN : Nat → Int × Int
  | 0 => (z, y)
  | j + 1 => if cmpQ (qOf (ez j) (ey j)) (qOf (mxN j).1 (mxN j).2) > 0 then (ez j, ey j) else mxN j
end
def bMax (z y : Int) (ez ey : Nat → Int) (n K : Nat) : List (World → Value → Prop) :=
  [fun w v => QV w v z y K, fun w v => Arr 4 (fun i w v => QV w v (ez i) (ey i) K) n w v, fun _ v => v = .int .i64 (n : Int), fun w v => QV w v (mxN z y ez ey n).1 (mxN z y ez ey n).2 K,
   fun w v => IntV w v (pN (mxN z y ez ey n).1 (mxN z y ez ey n).2) (K + 2), fun w v => IntV w v (pD (mxN z y ez ey n).2) (K + 2),
   fun w v => NorQ w v (qOf (mxN z y ez ey n).1 (mxN z y ez ey n).2) (K + 2), fun w v => NorV w v (qOf (mxN z y ez ey n).1 (mxN z y ez ey n).2).num (K + 2), fun w v => NorV w v ((qOf (mxN z y ez ey n).1 (mxN z y ez ey n).2).den : Int) (K + 2)]
def lMax (z y : Int) (ez ey : Nat → Int) (K j : Nat) : List (World → Value → Prop) :=
  [fun _ v => v = .int .i64 (j : Int), fun w v => QV w v (mxN z y ez ey j).1 (mxN z y ez ey j).2 K, fun w v => Ptr 4 (fun w v => QV w v (ez j) (ey j) K) w v, fun w v => QV w v (ez j) (ey j) K,
   fun _ v => v = .int .i64 (cmpQ (qOf (ez j) (ey j)) (qOf (mxN z y ez ey j).1 (mxN z y ez ey j).2)), fun _ v => v = .int .i64 ((j : Int) + 1)]
def dMax : LoopD := ⟨[2, 4, 7, 8], [(.slot 9, .i), (.cell 1 0, .b), (.cell 1 1, .s), (.cell 1 2, .b), (.cell 1 3, .s)], [(.one 0, 9), (.agg [1, 2, 3, 4], 10)], [.closed (.one (.ci .i64 0)), .from 0], 9, [(10, 3)]⟩
def rMax (r : Bool) : List Step := [.base ⟨0, [.fact 9, .fact 2], [⟨.one (.lit (.cb true)), []⟩], .quiet (mBin .lss)⟩, .base ⟨0, [.fact 1, .fact 9], [⟨.one .p, [(0, 0, 11)]⟩], .quiet (mIdx 144)⟩,
  .base ⟨0, [.fact 11], [⟨qS, [(0, 0, 12)]⟩], .quiet (mLoad 28)⟩, .base ⟨130, [.fact 12, .fact 10], [⟨.one .i, [(0, 0, 13)]⟩], false⟩,
  .base ⟨0, [.fact 13, .lit (.ci .i64 0)], [⟨.one (.lit (.cb r)), []⟩], .quiet (mBin .gtr)⟩, .base ⟨0, [.fact 9, .lit (.ci .i64 1)], [⟨.one .i, [(0, 0, 14)]⟩], .quiet (mBin .add)⟩]
def oMax : List Step := [.base ⟨0, [.fact 9, .fact 2], [⟨.one (.lit (.cb false)), []⟩], .quiet (mBin .lss)⟩]
def sMax : List Step := [.base ⟨0, [.fact 1], [⟨.one .i, [(0, 0, 2)]⟩], .quiet (mLen 144)⟩, .loop dMax [(rMax true, [.from 14, .from 12]), (rMax false, [.from 14, .from 10])] oMax,
  .base ⟨132, [.fact 3], [⟨iS, [(0, 0, 4)]⟩, ⟨iS, [(0, 0, 5)]⟩], true⟩, .base ⟨131, [.fact 4, .fact 5], [⟨qS, [(0, 0, 6), (0, 2, 7), (2, 2, 8)]⟩], false⟩]
theorem max_any {z y : Int} {ez ey : Nat → Int} {n K : Nat} (hn : n ≤ 1000000) (hK : K ≤ 40000) : SiteOk (ph (bMax z y ez ey n K)) Tryz.prog ⟨110, [.fact 0, .fact 1], [⟨qS, [(0, 0, 6), (0, 2, 7), (2, 2, 8)]⟩], false⟩ := by
  have round : ∀ (j : Nat) (r : Bool), j < n → decide (cmpQ (qOf (ez j) (ey j)) (qOf (mxN z y ez ey j).1 (mxN z y ez ey j).2) > 0) = r → ∀ t, t ∈ rMax r → LOk Tryz.prog (ph (bMax z y ez ey n K ++ lMax z y ez ey K j)) t := fun j r hj hr =>
    lbase (qTest (fun _ _ h => h) (fun _ _ h => h) (lss_run (decide_eq_true (by omega))))
      (lbase (qIdx (i := j) (sz := 4) (n := n) (F := fun i w v => QV w v (ez i) (ey i) K) Tryz.underlying144 (by kernel_rfl) (fun _ _ h => h) (fun _ _ h => h) hj rfl)
      (lbase (qLoad (sz := 4) (F := fun w v => QV w v (ez j) (ey j) K) (by kernel_rfl) (by kernel_rfl) (fun _ _ h => h) (fun _ _ _ g h => QV.kp h g) (fun _ _ h => QV.is h) rfl)
      (lbase (sRCmpJ vQ vQ rfl (by omega) rfl)
      (lbase (qTestC (fun _ _ h => h) (gtr_run hr))
      (lbase (qAddC (fun _ _ h => h) rfl (by omega) (by omega)) lnil)))))
  refine fn_okL [⟨qS, [(0, 0, 0)]⟩, ⟨.one .s, [(0, 0, 1)]⟩] [⟨qS, [(0, 0, 6), (0, 2, 7), (2, 2, 8)]⟩] sMax Tryz.func110 (by kernel_rfl)
    (lbase (qLen (sz := 4) (n := n) (F := fun i w v => QV w v (ez i) (ey i) K) Tryz.underlying144 (fun _ _ h => h) rfl)
      (lloop (counted n (fun j => ph (bMax z y ez ey n K ++ lMax z y ez ey K j)) (fun j => if cmpQ (qOf (ez j) (ey j)) (qOf (mxN z y ez ey j).1 (mxN z y ez ey j).2) > 0 then 0 else 1) ?_ ⟨fun _ => rfl, fun _ _ h => h, trivial⟩ (fun j hj => ?_) ?_ ?_)
      (lbase (sParts (fun _ _ h => h) rfl rfl (by omega))
      (lbase (sLowest (K + 2) (fun _ _ h => h) (fun _ _ h => h) rfl rfl rfl (by omega) (by omega) (by omega) (pD_ne _) (by rw [qOf_parts])) lnil))))
    (ins_ok [.fact 0 qS, .fact 1 (.one .s)] ⟨fun _ _ h => QV.is h, fun _ _ h => Arr.is (sz := 4) (n := n) (F := fun i w v => QV w v (ez i) (ey i) K) h, trivial⟩) (fun _ _ _ h => h)
  · intro j p hp
    match p, hp with
    | 0, _ => rfl
    | 1, _ => rfl
    | 2, _ => rfl
    | 3, _ => rfl
    | 4, _ => rfl
    | 5, _ => rfl
    | 6, _ => rfl
    | 7, _ => rfl
    | 8, _ => rfl
    | p + 9, hp => exact absurd hp (by simp only [dMax]; omega)
  · by_cases hc : cmpQ (qOf (ez j) (ey j)) (qOf (mxN z y ez ey j).1 (mxN z y ez ey j).2) > 0
    · refine ⟨(rMax true, [.from 14, .from 12]), by rw [if_pos hc]; rfl, ⟨fun _ _ h => ?_, fun _ _ h => ?_, trivial⟩, round j true hj (decide_eq_true hc)⟩
      · exact (h : _ = Value.int .i64 ((j : Int) + 1)).trans (by simp)
      · show QV _ _ (mxN z y ez ey (j + 1)).1 (mxN z y ez ey (j + 1)).2 K
        rw [mxN, if_pos hc]; exact h
    · refine ⟨(rMax false, [.from 14, .from 10]), by rw [if_neg hc]; rfl, ⟨fun _ _ h => ?_, fun _ _ h => ?_, trivial⟩, round j false hj (decide_eq_false hc)⟩
      · exact (h : _ = Value.int .i64 ((j : Int) + 1)).trans (by simp)
      · show QV _ _ (mxN z y ez ey (j + 1)).1 (mxN z y ez ey (j + 1)).2 K
        rw [mxN, if_neg hc]; exact h
  · exact lbase (qTest (fun _ _ h => h) (fun _ _ h => h) (lss_run (decide_eq_false (by omega)))) lnil
  · intro q hq w v h
    rcases List.mem_singleton.1 hq with rfl
    exact h
/-- A contract told in one list of predicates, told in another. -/
theorem via {P : Program} {Φ Ψ : Nat → World → Value → Prop} {f : FuncId} {ar ar' : List Arg} {outs outs' : List Out} {tup : Bool} (h : SiteOk Ψ P ⟨f, ar', outs', tup⟩) (ha : ∀ (X : Nat → Prop) (w : World) (vs : List Value), argsOk Φ X w ar vs → argsOk Ψ X w ar' vs) (ho : ∀ (X : Nat → Prop) (w : World) (us : List Value), outsOk Ψ X w outs' us → outsOk Φ X w outs us) : SiteOk Φ P ⟨f, ar, outs, tup⟩ :=
  fun X w vs hX h' => (h X w vs hX (ha X w vs h')).mono fun _ w' ⟨hg, us, he, h2⟩ => ⟨hg, us, he, ho X w' us h2⟩
section
variable {Φ : Nat → World → Value → Prop} {p q x x1 x2 n K : Nat} {z y : Int} {ez ey : Nat → Int} {t : Rat}
theorem viaP {Ψ : Nat → World → Value → Prop} {r k : Nat} {fs : List (Nat × Nat × Nat)} (hm : (0, 0, r) ∈ fs) (hr : ∀ w v, Ψ r w v → NorQ w v t k) (hx : Φ x = fun w v => NorQ w v t k) (hx1 : Φ x1 = fun w v => NorV w v t.num k) (hx2 : Φ x2 = fun w v => NorV w v (t.den : Int) k) (X : Nat → Prop) (w : World) (us : List Value) (h : outsOk Ψ X w [⟨qS, fs⟩] us) : outsOk Φ X w [⟨qS, [(0, 0, x), (0, 2, x1), (2, 2, x2)]⟩] us := by
  match us, h with
  | [u], h =>
    refine ⟨⟨h.1.1, fun c hc w1 hw => ?_⟩, trivial⟩
    obtain ⟨b, s, m, c', b', s', m', c'', rfl, h1, h2⟩ := hr _ _ (h.1.2 (0, 0, r) hm w1 hw)
    simp only [List.mem_cons, List.not_mem_nil, or_false] at hc
    rcases hc with rfl | rfl | rfl
    · show Φ x w1 _; rw [hx]; exact ⟨b, s, m, c', b', s', m', c'', rfl, h1, h2⟩
    · show Φ x1 w1 _; rw [hx1]; exact h1
    · show Φ x2 w1 _; rw [hx2]; exact h2
theorem sMaxA (hp : ∀ w v, Φ p w v → QV w v z y K) (hq : ∀ w v, Φ q w v → Arr 4 (fun i w v => QV w v (ez i) (ey i) K) n w v) (hx : Φ x = fun w v => NorQ w v t (K + 2)) (hx1 : Φ x1 = fun w v => NorV w v t.num (K + 2)) (hx2 : Φ x2 = fun w v => NorV w v (t.den : Int) (K + 2))
    (hn : n ≤ 1000000) (hK : K ≤ 40000) (ht : qOf (mxN z y ez ey n).1 (mxN z y ez ey n).2 = t) : SiteOk Φ Tryz.prog ⟨110, [.fact p, .fact q], [⟨qS, [(0, 0, x), (0, 2, x1), (2, 2, x2)]⟩], false⟩ :=
  via (max_any (z := z) (y := y) (ez := ez) (ey := ey) hn hK) (fun X w vs h => by
    match vs, h with
    | [v, u], h => exact ⟨fun w1 hw => hp _ _ (h.1 w1 hw), fun w1 hw => hq _ _ (h.2.1 w1 hw), trivial⟩)
    (viaP (List.mem_cons_self ..) (fun _ _ h => ht ▸ h) hx hx1 hx2)
end
end Go.Proofs.YtigkehblnlghkaaGreat.Sym
