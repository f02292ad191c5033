/- poly.Same; contracts of Norm, Neg, Add, Sub, Mul. -/
import Derived.Test.YtigkehblnlghkaaGreatPolG
namespace Go.Proofs.YtigkehblnlghkaaGreat.Sym
open Go.RowKit
theorem cmpI_self (z : Int) : cmpI z z = 0 := by
  unfold cmpI
  rw [if_neg (by omega), if_pos rfl]
def b_psame1 (z : Int) (k l : Nat) : List (World → Value → Prop) := [fun w v => IntV w v z k, fun w v => IntV w v z l, fun _ v => v = .int .i64 (cmpI z z)]
def ss_psame1 : List Step := [.base ⟨47, [.fact 0, .fact 1], [⟨.one (.i), [(0, 0, 2)]⟩], false⟩,
      .base ⟨0, [.fact 2, .lit (.ci .i64 0)], [⟨.one (.lit (.cb true)), []⟩], .quiet (mBin .eql)⟩]
def ins_psame1 : List Out := [⟨.agg [.b, .s], [(0, 0, 0)]⟩, ⟨.agg [.b, .s], [(0, 0, 1)]⟩]
set_option maxRecDepth 100000 in
theorem psame1 {z : Int} {k l : Nat} (hk : k ≤ 400000) (hl : l ≤ 400000) : SiteOk (ph (b_psame1 z k l)) Tryz.prog ⟨57, [.fact 0, .fact 1], [⟨.one (.lit (.cb true)), []⟩], false⟩ := by
  skip
  exact fn_okL ins_psame1 [⟨.one (.lit (.cb true)), []⟩] ss_psame1 Tryz.func57 (by kernel_rfl)
    (lbase (sCmpJ iI iI rfl (by omega) rfl)
      (lbase (qTestC (op := .eql) (fun _ _ h => h) (ts_run (decide_eq_true (cmpI_self z)) (by simp)))
      lnil))
    (ins_ok [.fact 0 (.agg [.b, .s]), .fact 1 (.agg [.b, .s])] ⟨fun _ _ h => IntV.is h, fun _ _ h => IntV.is h, trivial⟩) (fun _ _ _ h => h)

theorem sSame1 {Φ : Nat → World → Value → Prop} {p q k l : Nat} {z : Int} (hp : ∀ w v, Φ p w v → IntV w v z k) (hq : ∀ w v, Φ q w v → IntV w v z l) (hk : k ≤ 400000) (hl : l ≤ 400000) : SiteOk Φ Tryz.prog ⟨57, [.fact p, .fact q], [⟨.one (.lit (.cb true)), []⟩], false⟩ :=
  viaG (psame1 hk hl) ⟨hp, hq, trivial⟩ ⟨⟨rfl, trivial⟩, trivial⟩
def b_peqf (z : Nat → Int) (n k l : Nat) : List (World → Value → Prop) := [fun w v => Rw 2 (fun ι w v => IntV w v (z ι) k) n w v, fun w v => Rw 2 (fun ι w v => IntV w v (z ι) l) n w v, fun _ v => v = .int .i64 ((n : Nat) : Int), fun _ v => v = .int .i64 ((n : Nat) : Int), fun _ v => v = .int .i64 ((n : Nat) : Int)]
def l_peqf_1 (z : Nat → Int) (k l : Nat) (j : Nat) : List (World → Value → Prop) := [fun _ v => v = .int .i64 ((j : Nat) : Int), fun w v => Ptr 2 (fun w v => IntV w v (z j) k) w v, fun w v => IntV w v (z j) k, fun w v => Ptr 2 (fun w v => IntV w v (z j) l) w v, fun w v => IntV w v (z j) l, fun _ v => v = .int .i64 (((j + 1) : Nat) : Int)]
def d_peqf_1 : LoopD := ⟨[0, 1, 2, 6, 10, 11, 12, 13, 14, 15, 16], [(.slot 17, .i)], [(.one 0, 5)], [.closed (.one (.ci .i64 0))], 5, []⟩
def r_peqf_1_0 : List Step := [.base ⟨0, [.fact 5, .fact 4], [⟨.one (.lit (.cb true)), []⟩], .quiet (mBin .lss)⟩,
      .base ⟨0, [.fact 0, .fact 5], [⟨.one (.p), [(0, 0, 6)]⟩], .quiet (mIdx 23)⟩,
      .base ⟨0, [.fact 6], [⟨.agg [.b, .s], [(0, 0, 7)]⟩], .quiet (mLoad 26)⟩,
      .base ⟨0, [.fact 1, .fact 5], [⟨.one (.p), [(0, 0, 8)]⟩], .quiet (mIdx 23)⟩,
      .base ⟨0, [.fact 8], [⟨.agg [.b, .s], [(0, 0, 9)]⟩], .quiet (mLoad 26)⟩,
      .base ⟨57, [.fact 7, .fact 9], [⟨.one (.lit (.cb true)), []⟩], false⟩,
      .base ⟨0, [.fact 5, .lit (.ci .i64 1)], [⟨.one (.i), [(0, 0, 10)]⟩], .quiet (mBin .add)⟩]
def o_peqf_1 : List Step := [.base ⟨0, [.fact 5, .fact 4], [⟨.one (.lit (.cb false)), []⟩], .quiet (mBin .lss)⟩]
def ss_peqf : List Step := [.base ⟨0, [.fact 0], [⟨.one (.i), [(0, 0, 2)]⟩], .quiet (mLen 23)⟩,
      .base ⟨0, [.fact 1], [⟨.one (.i), [(0, 0, 3)]⟩], .quiet (mLen 23)⟩,
      .base ⟨0, [.fact 2, .fact 3], [⟨.one (.lit (.cb false)), []⟩], .quiet (mBin .neq)⟩,
      .base ⟨0, [.fact 0], [⟨.one (.i), [(0, 0, 4)]⟩], .quiet (mLen 23)⟩,
      .loop d_peqf_1 [(r_peqf_1_0, [.from 10])] o_peqf_1]
def ins_peqf : List Out := [⟨.one (.s), [(0, 0, 0)]⟩, ⟨.one (.s), [(0, 0, 1)]⟩, ⟨.one (.lit (.fn 57)), []⟩]
set_option maxRecDepth 100000 in
theorem peqf {z : Nat → Int} {n k l : Nat} (hn : n ≤ 1000000) (hk : k ≤ 400000) (hl : l ≤ 400000) : SiteOk (ph (b_peqf z n k l)) Tryz.prog ⟨56, [.fact 0, .fact 1, .lit (.fn 57)], [⟨.one (.lit (.cb true)), []⟩], false⟩ := by
  skip
  exact fn_okL ins_peqf [⟨.one (.lit (.cb true)), []⟩] ss_peqf Tryz.func56 (by kernel_rfl)
    (lbase (qLen (sz := 2) (n := n) (F := (fun ι w v => IntV w v (z ι) k)) Tryz.underlying23 (fun _ _ h => Rw.arr h) rfl)
      (lbase (qLen (sz := 2) (n := n) (F := (fun ι w v => IntV w v (z ι) l)) Tryz.underlying23 (fun _ _ h => Rw.arr h) rfl)
      (lbase (qTest (op := .neq) (fun _ _ h => h) (fun _ _ h => h) (ts_run (decide_eq_false (fun h => h rfl)) (by simp)))
      (lbase (qLen (sz := 2) (n := n) (F := (fun ι w v => IntV w v (z ι) k)) Tryz.underlying23 (fun _ _ h => Rw.arr h) rfl)
      (lloop (counted n (fun j => ph (b_peqf z n k l ++ l_peqf_1 z k l j)) (fun _ => 0) (fun j p hp => ph_app' (show p < (b_peqf z n k l).length from hp)) ⟨fun _ => rfl, trivial⟩ (fun j hj => by
      skip
      exact ⟨(r_peqf_1_0, [.from 10]), rfl, ⟨fun _ _ h => h, trivial⟩, (lbase (qTest (op := .lss) (fun _ _ h => h) (fun _ _ h => h) (ts_run (decide_eq_true (by omega)) (by simp)))
      (lbase (qIdx (i := j) (sz := 2) (n := n) (F := (fun ι w v => IntV w v (z ι) k)) Tryz.underlying23 (by kernel_rfl) (fun _ _ h => Rw.arr h) (fun _ _ h => h) (by omega) rfl)
      (lbase (qLoad (sz := 2) (F := fun w v => IntV w v (z j) k) (by kernel_rfl) (by kernel_rfl) (fun _ _ h => h) (fun _ _ _ g h => IntV.kp h g) (fun _ _ h => IntV.is h) rfl)
      (lbase (qIdx (i := j) (sz := 2) (n := n) (F := (fun ι w v => IntV w v (z ι) l)) Tryz.underlying23 (by kernel_rfl) (fun _ _ h => Rw.arr h) (fun _ _ h => h) (by omega) rfl)
      (lbase (qLoad (sz := 2) (F := fun w v => IntV w v (z j) l) (by kernel_rfl) (by kernel_rfl) (fun _ _ h => h) (fun _ _ _ g h => IntV.kp h g) (fun _ _ h => IntV.is h) rfl)
      (lbase (sSame1 iI iI (by omega) (by omega))
      (lbase (qAddK (fun _ _ h => h) (by omega) rfl (by omega) (by omega))
      lnil)))))))⟩)
      (lbase (qTest (op := .lss) (fun _ _ h => h) (fun _ _ h => h) (ts_run (decide_eq_false (by omega)) (by simp)))
      lnil)
      (fun q hq => by cases hq)) lnil)))))
    (ins_ok [.fact 0 (.one (.s)), .fact 1 (.one (.s)), .lit (.fn 57)] ⟨fun _ _ h => Rw.is (sz := 2) (F := (fun ι w v => IntV w v (z ι) k)) (n := n) h, fun _ _ h => Rw.is (sz := 2) (F := (fun ι w v => IntV w v (z ι) l)) (n := n) h, (fun _ h => by cases h), trivial⟩) (fun _ _ _ h => h)

theorem sEqF {Φ : Nat → World → Value → Prop} {p q n m k l : Nat} {z y : Nat → Int} (hp : ∀ w v, Φ p w v → Rw 2 (fun i w v => IntV w v (z i) k) n w v) (hq : ∀ w v, Φ q w v → Rw 2 (fun i w v => IntV w v (y i) l) m w v) (hn : n ≤ 1000000) (hk : k ≤ 400000) (hl : l ≤ 400000) (h : n = m) (hs : ∀ i, i < n → z i = y i) : SiteOk Φ Tryz.prog ⟨56, [.fact p, .fact q, .lit (.fn 57)], [⟨.one (.lit (.cb true)), []⟩], false⟩ := by
  subst h
  exact viaG (peqf hn hk hl) ⟨hp, fun w v h => Rw.to (F := fun i w v => IntV w v (y i) l) (G := fun i w v => IntV w v (z i) l) (hq w v h) fun i w v hi h => by rw [hs i hi]; exact h, rfl, trivial⟩ ⟨⟨rfl, trivial⟩, trivial⟩
def b_psamep (z y : Nat → Int) (n m k l : Nat) : List (World → Value → Prop) := [fun w v => Rw 2 (fun ι w v => IntV w v (z ι) k) n w v, fun w v => Rw 2 (fun ι w v => IntV w v (y ι) l) m w v, fun w v => Rw 2 (fun ι w v => IntV w v (z ι) k) (tl z n) w v, fun w v => Rw 2 (fun ι w v => IntV w v (y ι) l) (tl y m) w v]
def ss_psamep : List Step := [.base ⟨53, [.fact 0], [⟨.one (.s), [(0, 0, 2)]⟩], false⟩,
      .base ⟨53, [.fact 1], [⟨.one (.s), [(0, 0, 3)]⟩], false⟩,
      .base ⟨56, [.fact 2, .fact 3, .lit (.fn 57)], [⟨.one (.lit (.cb true)), []⟩], false⟩]
def ins_psamep : List Out := [⟨.one (.s), [(0, 0, 0)]⟩, ⟨.one (.s), [(0, 0, 1)]⟩]
set_option maxRecDepth 100000 in
theorem psamep {z y : Nat → Int} {n m k l : Nat} (hn : n ≤ 1000000) (hm : m ≤ 1000000) (hk : k ≤ 400000) (hl : l ≤ 400000) (hs : tl z n = tl y m ∧ ∀ i, i < tl z n → z i = y i) : SiteOk (ph (b_psamep z y n m k l)) Tryz.prog ⟨15, [.fact 0, .fact 1], [⟨.one (.lit (.cb true)), []⟩], false⟩ := by
  have hz := tl_le z n
  exact fn_okL ins_psamep [⟨.one (.lit (.cb true)), []⟩] ss_psamep Tryz.func15 (by kernel_rfl)
    (lbase (sTrim (z := z) (n := n) (k := k) (F := (fun ι w v => IntV w v (z ι) k)) (fun _ _ h => h) (fun _ _ _ h => h) (fun _ _ _ _ g h => IntV.kp h g) rfl (by omega) (by omega))
      (lbase (sTrim (z := y) (n := m) (k := l) (F := (fun ι w v => IntV w v (y ι) l)) (fun _ _ h => h) (fun _ _ _ h => h) (fun _ _ _ _ g h => IntV.kp h g) rfl (by omega) (by omega))
      (lbase (sEqF (fun _ _ h => Rw.to (sz := 2) (n := (tl z n)) (F := (fun ι w v => IntV w v (z ι) k)) (h) (fun i w v _ h => (fun _ _ _ h => h) i w v h)) (fun _ _ h => Rw.to (sz := 2) (n := (tl y m)) (F := (fun ι w v => IntV w v (y ι) l)) (h) (fun i w v _ h => (fun _ _ _ h => h) i w v h)) (by omega) (by omega) (by omega) hs.1 hs.2)
      lnil)))
    (ins_ok [.fact 0 (.one (.s)), .fact 1 (.one (.s))] ⟨fun _ _ h => Rw.is (sz := 2) (F := (fun ι w v => IntV w v (z ι) k)) (n := n) h, fun _ _ h => Rw.is (sz := 2) (F := (fun ι w v => IntV w v (y ι) l)) (n := m) h, trivial⟩) (fun _ _ _ h => h)

theorem tl_le_of {z y : Nat → Int} {n m : Nat} (h : ∀ i, upto n z i = upto m y i) : tl z n ≤ tl y m := by
  rcases Nat.lt_or_ge (tl y m) (tl z n) with h1 | h1
  · have h2 := tl_last z n (by omega)
    have h3 := h (tl z n - 1)
    have h4 := tl_le z n
    rw [upto_lt (by omega), tl_out (z := y) (n := m) (by omega)] at h3
    exact absurd h3 h2
  · exact h1
theorem same_of {z y : Nat → Int} {n m : Nat} (h : ∀ i, upto n z i = upto m y i) : tl z n = tl y m ∧ ∀ i, i < tl z n → z i = y i := by
  have e := Nat.le_antisymm (tl_le_of h) (tl_le_of fun i => (h i).symm)
  refine ⟨e, fun i hi => ?_⟩
  have h1 := h i
  have h2 := tl_le z n
  have h3 := tl_le y m
  rwa [upto_lt (by omega), upto_lt (by omega)] at h1
section
variable {Φ : Nat → World → Value → Prop} {p q x n m k l c : Nat} {z y : Nat → Int} {L : List Int}
theorem sSameT (hp : ∀ w v, Φ p w v → Rw 2 (fun i w v => IntV w v (z i) k) n w v) (hq : ∀ w v, Φ q w v → Rw 2 (fun i w v => IntV w v (y i) l) m w v) (hn : n ≤ 1000000) (hm : m ≤ 1000000) (hk : k ≤ 400000) (hl : l ≤ 400000) (hs : ∀ i, upto n z i = upto m y i) : SiteOk Φ Tryz.prog ⟨15, [.fact p, .fact q], [⟨.one (.lit (.cb true)), []⟩], false⟩ :=
  viaG (psamep hn hm hk hl (same_of hs)) ⟨hp, hq, trivial⟩ ⟨⟨rfl, trivial⟩, trivial⟩
theorem row_bd {w : World} {v : Value} (h : Rw 2 (fun i w v => IntV w v (z i) k) n w v) (i : Nat) (hi : i < n) : Bd (z i).natAbs k := by
  obtain ⟨_, _, _, _, h1⟩ := h
  obtain ⟨_, _, _, l, _, _, h2⟩ := h1 i hi
  exact IntV.bd' h2
theorem nil_is {X : Nat → Prop} {w : World} {us : List Value} {K : Nat} (hx : Φ x = fun w v => Rw 2 (fun i w v => NorV w v (coef L i) K) L.length w v) (hL : L = []) (h : outsOk Φ X w [⟨.one (.lit .nl), []⟩] us) : outsOk Φ X w [⟨.one .s, [(0, 0, x)]⟩] us := by
  subst hL
  match us, h with
  | [u], h =>
    obtain rfl : u = .slice none 0 0 := h.1.1.1
    exact one_out ⟨⟨_, _, _, rfl⟩, fun _ h => by cases h⟩ hx fun w1 _ => Rw.nil 2 _ w1
theorem sPMul (hp : ∀ w v, Φ p w v → Rw 2 (fun i w v => IntV w v (z i) k) n w v) (hq : ∀ w v, Φ q w v → Rw 2 (fun i w v => IntV w v (y i) l) m w v) (hx : Φ x = fun w v => Rw 2 (fun i w v => NorV w v (coef L i) (k + l + c + 1)) L.length w v) (hn : n ≤ c) (hm : m ≤ 400000) (hc : c ≤ 1000) (hk : k ≤ 100000) (hl : l ≤ 100000) (hL : mulL z n y m = L) : SiteOk Φ Tryz.prog ⟨13, [.fact p, .fact q], [⟨.one .s, [(0, 0, x)]⟩], false⟩ := fun X w vs hX ha => by
  match vs, ha with
  | [v, u], ha =>
    have hz := row_bd (hp _ _ (ha.1 w (Off.refl _ _)))
    have hy := row_bd (hq _ _ (ha.2.1 w (Off.refl _ _)))
    have hzl := tl_le z n
    have hyl := tl_le y m
    rcases Nat.eq_zero_or_pos (tl z n) with h1 | h1
    · exact (viaG (outs := [⟨.one (.lit .nl), []⟩]) (Φ := Φ) (ar := [.fact p, .fact q]) (pmul_0 (z := z) (y := y) (n := n) (m := m) (k := k) (l := l) (by omega) hm hk hl h1) ⟨hp, hq, trivial⟩ ⟨⟨rfl, trivial⟩, trivial⟩ X w [v, u] hX ha).mono fun e w' ⟨hg, us, he, h2⟩ => ⟨hg, us, he, nil_is hx (by rw [← hL, mulL, if_pos (.inl h1)]) h2⟩
    rcases Nat.eq_zero_or_pos (tl y m) with h2 | h2
    · exact (viaG (outs := [⟨.one (.lit .nl), []⟩]) (Φ := Φ) (ar := [.fact p, .fact q]) (pmul_1 (z := z) (y := y) (n := n) (m := m) (k := k) (l := l) (by omega) hm hk hl h1 h2) ⟨hp, hq, trivial⟩ ⟨⟨rfl, trivial⟩, trivial⟩ X w [v, u] hX ha).mono fun e w' ⟨hg, us, he, h2'⟩ => ⟨hg, us, he, nil_is hx (by rw [← hL, mulL, if_pos (.inr h2)]) h2'⟩
    · refine viaG (Φ := Φ) (ar := [.fact p, .fact q]) (outs := [⟨.one .s, [(0, 0, x)]⟩]) (pmul (z := z) (y := y) (n := n) (m := m) (k := k) (l := l) (K := k + l + c + 1) (by omega) hm hk hl (by omega) h1 h2 fun j i p hj hi => cvI_bd (n := tl z n) (l := tl y m) (c := c) (fun i hi => hz i (by omega)) (fun i hi => hy i (by omega)) hj (by omega) hi p) ⟨hp, hq, trivial⟩ ⟨⟨rfl, ⟨rfl, rfl, fun w v h => ?_⟩, trivial⟩, trivial⟩ X w [v, u] hX ha
      rw [hx, ← hL, mulL, if_neg (by omega), mk_length]
      exact Rw.to (ArrO.rw (e := 26) (F := fun i w v => NorV w v (cvS z y (tl y m) (tl z n) i) (k + l + c + 1)) h) fun i w v hi h => h.eq (by rw [coef_mk, if_pos hi])
end
end Go.Proofs.YtigkehblnlghkaaGreat.Sym
