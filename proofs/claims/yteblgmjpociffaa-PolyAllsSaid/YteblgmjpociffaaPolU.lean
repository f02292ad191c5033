/- poly.Of, Deg, coefficient, Lead. -/
import Derived.Test.YteblgmjpociffaaPolT
namespace Go.Proofs.Yteblgmjpociffaa.Sym
open Go.RowKit
def b_pof (z : Nat → Int) (n : Nat) : List (World → Value → Prop) := [fun w v => Rw 1 (fun i _ v => v = .agg #[.int .i64 (z i)]) n w v, fun _ v => v = .int .i64 ((n : Nat) : Int), fun w v => ArrO 2 36 (fun i w v => NorV w v ((upto 0 z) i) 2) n w v, fun _ v => v = .int .i64 ((n : Nat) : Int), fun w v => ArrO 2 36 (fun i w v => NorV w v ((upto n z) i) 2) n w v, fun w v => Rw 2 (fun i w v => NorV w v ((upto n z) i) 2) (tl (upto n z) n) w v]
def l_pof_1 (z : Nat → Int) (n : Nat) (j : Nat) : List (World → Value → Prop) := [fun _ v => v = .int .i64 ((j : Nat) : Int), fun w v => ArrO 2 36 (fun i w v => NorV w v ((upto j z) i) 2) n w v, fun _ _ => True, fun w v => Ptr 1 (fun _ v => v = .agg #[.int .i64 (z j)]) w v, fun _ v => v = .int .i64 (z j), fun w v => NorV w v (z j) 2, At 2, fun w v => Ptr 2 (fun w v => NorV w v ((upto j z) j) 2) w v, fun w v => ArrO 2 36 (fun i w v => NorV w v ((upto (j + 1) z) i) 2) n w v, fun _ v => v = .int .i64 (((j + 1) : Nat) : Int)]
def d_pof_1 : LoopD := ⟨[0, 2, 6, 7, 8, 9, 10], [(.slot 11, .i), (.slot 3, .s)], [(.one 0, 6), (.one 1, .at [1] 7), (.one 1, .lo 1)], [.closed (.one (.ci .i64 0)), .from 2, .from 0], 6, [(7, 4)]⟩
def r_pof_1_0 : List Step := [.base ⟨0, [.fact 6, .fact 3], [⟨.one (.lit (.cb true)), []⟩], .quiet (mBin .lss)⟩,
      .base ⟨0, [.fact 0, .fact 6], [⟨.one (.p), [(0, 0, 9)]⟩], .quiet (mIdx 40)⟩,
      .base ⟨0, [.fact 9], [⟨.one (.i), [(0, 0, 10)]⟩], .quiet (mLoad 3)⟩,
      .base ⟨55, [.fact 10], [⟨.agg [.b, .s], [(0, 0, 11)]⟩], false⟩,
      .base ⟨0, [.fact 7, .fact 6], [⟨.one (.p), [(0, 0, 13)]⟩], .joint [1] 12 (mIdx 23)⟩,
      .base ⟨0, [.fact 7, .fact 6, .any, .fact 11], [⟨.one .s, [(0, 0, 14)]⟩], .put [] 1 0 12 (mPut 36 (.tmp 16) (.tmp 17))⟩,
      .base ⟨0, [.fact 6, .lit (.ci .i64 1)], [⟨.one (.i), [(0, 0, 15)]⟩], .quiet (mBin .add)⟩]
def o_pof_1 : List Step := [.base ⟨0, [.fact 6, .fact 3], [⟨.one (.lit (.cb false)), []⟩], .quiet (mBin .lss)⟩]
def ss_pof : List Step := [.base ⟨0, [.fact 0], [⟨.one (.i), [(0, 0, 1)]⟩], .quiet (mLen 40)⟩,
      .base ⟨0, [.fact 1, .fact 1], [⟨.one (.s), [(0, 0, 2)]⟩], .loose [] 1 0 (mMake 23)⟩,
      .base ⟨0, [.fact 0], [⟨.one (.i), [(0, 0, 3)]⟩], .quiet (mLen 40)⟩,
      .loop d_pof_1 [(r_pof_1_0, [.from 15, .from 14, .from 0])] o_pof_1,
      .base ⟨51, [.fact 4], [⟨.one (.s), [(0, 0, 5)]⟩], .callJ [1] false⟩]
def ins_pof : List Out := [⟨.one (.s), [(0, 0, 0)]⟩]
set_option maxRecDepth 100000 in
theorem pof {z : Nat → Int} {n : Nat} (hn : n ≤ 1000000) (hz : ∀ i, -9223372036854775808 ≤ z i ∧ z i ≤ 9223372036854775807) : SiteOk (ph (b_pof z n)) Try.prog ⟨33, [.fact 0], [⟨.one (.s), [(0, 0, 5)]⟩], false⟩ := by
  skip
  exact fn_okL ins_pof [⟨.one (.s), [(0, 0, 5)]⟩] ss_pof Try.func33 (by kernel_rfl)
    (lbase (qLen (sz := 1) (n := n) (F := (fun i _ v => v = .agg #[.int .i64 (z i)])) Try.underlying40 (fun _ _ h => Rw.arr h) rfl)
      (lbase (qMakeI (n := n) (F := (fun i w v => NorV w v ((upto 0 z) i) 2)) (fun _ _ h => h) (by omega) (fun i w => NorV.zero w 2) rfl)
      (lbase (qLen (sz := 1) (n := n) (F := (fun i _ v => v = .agg #[.int .i64 (z i)])) Try.underlying40 (fun _ _ h => Rw.arr h) rfl)
      (lloop (counted n (fun j => ph (b_pof z n ++ l_pof_1 z n j)) (fun _ => 0) (fun j p hp => ph_app' (show p < (b_pof z n).length from hp)) ⟨fun _ => rfl, fun _ _ h => h, fun _ _ _ => trivial, trivial⟩ (fun j hj => by
      skip
      exact ⟨(r_pof_1_0, [.from 15, .from 14, .from 0]), rfl, ⟨fun _ _ h => h, fun _ _ h => h, fun _ _ _ => trivial, trivial⟩, (lbase (qTest (op := .lss) (fun _ _ h => h) (fun _ _ h => h) (ts_run (decide_eq_true (by omega)) (by simp)))
      (lbase (qIdx (i := j) (sz := 1) (n := n) (F := (fun i _ v => v = .agg #[.int .i64 (z i)])) Try.underlying40 (by kernel_rfl) (fun _ _ h => Rw.arr h) (fun _ _ h => h) (by omega) rfl)
      (lbase (qLoad1 (by kernel_rfl) (fun _ _ h => h) rfl)
      (lbase (sOfJ (fun _ _ h => h) rfl (by have := hz j; omega) (by have := hz j; omega) rfl)
      (lbase (qIdxJ (i := j) (sz := 2) (n := n) (F := (fun i w v => NorV w v ((upto j z) i) 2)) Try.underlying23 (by kernel_rfl) (fun _ _ h => ArrO.arr h) (fun _ _ h => h) (by omega) rfl rfl)
      (lbase (qPutR (i := j) (n := n) (F := (fun i w v => NorV w v ((upto j z) i) 2)) (F' := (fun i w v => NorV w v ((upto (j + 1) z) i) 2)) (G := fun w v => NorV w v (z j) 2) (.tmp 16) (.tmp 17) (by kernel_rfl) (fun _ _ h => h) (fun _ _ h => h) (by omega) (fun _ _ h => h) rfl (fun _ _ h => NorV.cells h) (fun _ _ _ _ g h => NorV.kp h g) (fun _ _ _ g h => NorV.kp h g) (fun i w v hi h => by rw [upto_ne hi]; exact h) (fun w v h => by rw [upto_self]; exact h) rfl)
      (lbase (qAddK (fun _ _ h => h) (by omega) rfl (by omega) (by omega))
      lnil)))))))⟩)
      (lbase (qTest (op := .lss) (fun _ _ h => h) (fun _ _ h => h) (ts_run (decide_eq_false (by omega)) (by simp)))
      lnil)
      (fun q hq w v h => by
        simp only [d_pof_1, List.mem_cons, List.not_mem_nil, or_false] at hq
        rcases hq with rfl
        · exact (fun h => h) h)) (lbase (onJ [1] (sTrim (z := (upto n z)) (n := n) (k := 2) (F := (fun i w v => NorV w v ((upto n z) i) 2)) (fun _ _ h => ArrO.rw h) (fun _ _ _ h => NorV.i h) (fun _ _ _ _ g h => NorV.kp h g) rfl (by omega) (by omega)))
      lnil)))))
    (ins_ok [.fact 0 (.one (.s))] ⟨fun _ _ h => Rw.is (sz := 1) (F := (fun i _ v => v = .agg #[.int .i64 (z i)])) (n := n) h, trivial⟩) (fun _ _ _ h => h)

def b_pdeg (n : Nat) : List (World → Value → Prop) := [LenS n, fun _ v => v = .int .i64 ((n : Nat) : Int), fun _ v => v = .int .i64 (((n : Nat) : Int) - 1)]
def ss_pdeg : List Step := [.base ⟨0, [.fact 0], [⟨.one (.i), [(0, 0, 1)]⟩], .quiet (mLen 23)⟩,
      .base ⟨0, [.fact 1, .lit (.ci .i64 1)], [⟨.one (.i), [(0, 0, 2)]⟩], .quiet (mBin .sub)⟩]
def ins_pdeg : List Out := [⟨.one (.s), [(0, 0, 0)]⟩]
set_option maxRecDepth 100000 in
theorem pdeg {n : Nat} (hn : n ≤ 1000000) : SiteOk (ph (b_pdeg n)) Try.prog ⟨54, [.fact 0], [⟨.one (.i), [(0, 0, 2)]⟩], false⟩ := by
  skip
  exact fn_okL ins_pdeg [⟨.one (.i), [(0, 0, 2)]⟩] ss_pdeg Try.func54 (by kernel_rfl)
    (lbase (qLenS' (n := n) Try.underlying23 (fun _ _ h => h) rfl)
      (lbase (qSubK (fun _ _ h => h) (rfl) rfl (by omega) (by omega))
      lnil))
    (ins_ok [.fact 0 (.one (.s))] ⟨fun w _ h => LenS.is (n := n) (w := w) h, trivial⟩) (fun _ _ _ h => h)

def b_pco_i (z : Nat → Int) (n k : Nat) (i : Nat) : List (World → Value → Prop) := [fun w v => Rw 2 (fun i w v => IntV w v (z i) k) n w v, fun _ v => v = .int .i64 ((i : Nat) : Int), fun _ v => v = .int .i64 ((n : Nat) : Int), fun w v => Ptr 2 (fun w v => IntV w v (z i) k) w v, fun w v => IntV w v (z i) k]
def ss_pco_i : List Step := [.base ⟨0, [.fact 0], [⟨.one (.i), [(0, 0, 2)]⟩], .quiet (mLen 23)⟩,
      .base ⟨0, [.fact 1, .fact 2], [⟨.one (.lit (.cb true)), []⟩], .quiet (mBin .lss)⟩,
      .base ⟨0, [.fact 0, .fact 1], [⟨.one (.p), [(0, 0, 3)]⟩], .quiet (mIdx 23)⟩,
      .base ⟨0, [.fact 3], [⟨.agg [.b, .s], [(0, 0, 4)]⟩], .quiet (mLoad 36)⟩]
def ins_pco_i : List Out := [⟨.one (.s), [(0, 0, 0)]⟩, ⟨.one (.i), [(0, 0, 1)]⟩]
set_option maxRecDepth 100000 in
theorem pco_i {z : Nat → Int} {n k : Nat} {i : Nat} (hi : i < n) : SiteOk (ph (b_pco_i z n k i)) Try.prog ⟨72, [.fact 0, .fact 1], [⟨.agg [.b, .s], [(0, 0, 4)]⟩], false⟩ := by
  skip
  exact fn_okL ins_pco_i [⟨.agg [.b, .s], [(0, 0, 4)]⟩] ss_pco_i Try.func72 (by kernel_rfl)
    (lbase (qLen (sz := 2) (n := n) (F := (fun i w v => IntV w v (z i) k)) Try.underlying23 (fun _ _ h => Rw.arr h) rfl)
      (lbase (qTest (op := .lss) (fun _ _ h => h) (fun _ _ h => h) (ts_run (decide_eq_true (by omega)) (by simp)))
      (lbase (qIdx (i := i) (sz := 2) (n := n) (F := (fun i w v => IntV w v (z i) k)) Try.underlying23 (by kernel_rfl) (fun _ _ h => Rw.arr h) (fun _ _ h => h) (by omega) rfl)
      (lbase (qLoad (sz := 2) (F := fun w v => IntV w v (z i) k) (by kernel_rfl) (by kernel_rfl) (fun _ _ h => h) (fun _ _ _ g h => IntV.kp h g) (fun _ _ h => IntV.is h) rfl)
      lnil))))
    (ins_ok [.fact 0 (.one (.s)), .fact 1 (.one (.i))] ⟨fun _ _ h => Rw.is (sz := 2) (F := (fun i w v => IntV w v (z i) k)) (n := n) h, fun _ _ h => h ▸ int_is _, trivial⟩) (fun _ _ _ h => h)

def b_pco_o (z : Nat → Int) (n k : Nat) (i : Nat) : List (World → Value → Prop) := [fun w v => Rw 2 (fun i w v => IntV w v (z i) k) n w v, fun _ v => v = .int .i64 ((i : Nat) : Int), fun _ v => v = .int .i64 ((n : Nat) : Int)]
def ss_pco_o : List Step := [.base ⟨0, [.fact 0], [⟨.one (.i), [(0, 0, 2)]⟩], .quiet (mLen 23)⟩,
      .base ⟨0, [.fact 1, .fact 2], [⟨.one (.lit (.cb false)), []⟩], .quiet (mBin .lss)⟩]
def ins_pco_o : List Out := [⟨.one (.s), [(0, 0, 0)]⟩, ⟨.one (.i), [(0, 0, 1)]⟩]
set_option maxRecDepth 100000 in
theorem pco_o {z : Nat → Int} {n k : Nat} {i : Nat} (hi : n ≤ i) : SiteOk (ph (b_pco_o z n k i)) Try.prog ⟨72, [.fact 0, .fact 1], [⟨.agg [.lit (.cb false), .lit (.nl)], []⟩], false⟩ := by
  skip
  exact fn_okL ins_pco_o [⟨.agg [.lit (.cb false), .lit (.nl)], []⟩] ss_pco_o Try.func72 (by kernel_rfl)
    (lbase (qLen (sz := 2) (n := n) (F := (fun i w v => IntV w v (z i) k)) Try.underlying23 (fun _ _ h => Rw.arr h) rfl)
      (lbase (qTest (op := .lss) (fun _ _ h => h) (fun _ _ h => h) (ts_run (decide_eq_false (by omega)) (by simp)))
      lnil))
    (ins_ok [.fact 0 (.one (.s)), .fact 1 (.one (.i))] ⟨fun _ _ h => Rw.is (sz := 2) (F := (fun i w v => IntV w v (z i) k)) (n := n) h, fun _ _ h => h ▸ int_is _, trivial⟩) (fun _ _ _ h => h)

theorem trim_coef {n i : Nat} {f : Nat → Int} (h : i < n) : upto n f i = coef (trimL (mk n f)) i := by rw [coef_trim, coef_mk, upto_lt h, if_pos h]
theorem tl_upto (n : Nat) (f : Nat → Int) : tl (upto n f) n = (trimL (mk n f)).length := by
  rw [trimL_mk]; exact tl_congr fun i hi => upto_lt hi
/-- What a row that was filled holds when it is cut. -/
theorem rowTrim {n k : Nat} {f : Nat → Int} {w : World} {v : Value} (h : Rw 2 (fun i w v => NorV w v (upto n f i) k) (tl (upto n f) n) w v) : Rw 2 (fun i w v => NorV w v (coef (trimL (mk n f)) i) k) (trimL (mk n f)).length w v :=
  Rw.len (Rw.to h fun i w v hi h => by rw [← trim_coef (Nat.lt_of_lt_of_le hi (tl_le _ _))]; exact h) (tl_upto n f)
section
variable {Φ : Nat → World → Value → Prop} {p q x n k i : Nat} {z : Nat → Int} {t : Int}
theorem sPOf {zs : List Int} (hp : ∀ w v, Φ p w v → Rw 1 (fun i _ v => v = .agg #[.int .i64 (z i)]) n w v) (hx : Φ x = fun w v => Rw 2 (fun i w v => NorV w v (coef zs i) 2) zs.length w v) (hn : n ≤ 1000000) (hz : ∀ i, -9223372036854775808 ≤ z i ∧ z i ≤ 9223372036854775807) (hzs : trimL (mk n z) = zs) : SiteOk Φ Try.prog ⟨33, [.fact p], [⟨.one .s, [(0, 0, x)]⟩], false⟩ :=
  viaG (pof hn hz) ⟨hp, trivial⟩ ⟨⟨rfl, ⟨rfl, rfl, fun _ _ h => hx ▸ hzs ▸ rowTrim h⟩, trivial⟩, trivial⟩
theorem sDeg (hp : ∀ w v, Φ p w v → LenS n w v) (hx : Φ x = fun _ v => v = .int .i64 t) (hn : n ≤ 1000000) (ht : ((n : Nat) : Int) - 1 = t) : SiteOk Φ Try.prog ⟨54, [.fact p], [⟨.one .i, [(0, 0, x)]⟩], false⟩ :=
  viaG (pdeg hn) ⟨hp, trivial⟩ ⟨⟨rfl, ⟨rfl, rfl, fun _ _ h => hx ▸ ht ▸ h⟩, trivial⟩, trivial⟩
theorem zI_is {w : World} {us : List Value} {X : Nat → Prop} (hx : Φ x = fun w v => IntV w v 0 k) (h : outsOk Φ X w [⟨.agg [.lit (.cb false), .lit .nl], []⟩] us) : outsOk Φ X w [⟨iS, [(0, 0, x)]⟩] us := by
  match us, h with
  | [u], h =>
    obtain ⟨⟨⟨vs, rfl, h2⟩, _⟩, _⟩ := h
    match vs, h2 with
    | [v0, v1], h2 =>
      obtain ⟨e0, e1, _⟩ := h2
      have e0' : v0 = .bool false := e0
      have e1' : v1 = .slice none 0 0 := e1
      subst e0'; subst e1'
      exact one_out iS_is hx fun w1 _ => (NorV.zero w1 k).i
theorem sCoef (hp : ∀ w v, Φ p w v → Rw 2 (fun i w v => IntV w v (z i) k) n w v) (hq : ∀ w v, Φ q w v → v = .int .i64 (i : Int)) (hx : Φ x = fun w v => IntV w v t k) (_hn : n ≤ 1000000) (h1 : i < n → z i = t) (h2 : n ≤ i → t = 0) : SiteOk Φ Try.prog ⟨72, [.fact p, .fact q], [⟨iS, [(0, 0, x)]⟩], false⟩ := by
  rcases Nat.lt_or_ge i n with h | h
  · exact viaG (pco_i (z := z) (k := k) (n := n) h) ⟨hp, hq, trivial⟩ ⟨⟨rfl, ⟨rfl, rfl, fun _ _ h' => hx ▸ h1 h ▸ h'⟩, trivial⟩, trivial⟩
  · intro X w vs hX ha
    have ht := h2 h
    subst ht
    refine (viaG (outs := [⟨.agg [.lit (.cb false), .lit .nl], []⟩]) (Φ := Φ) (ar := [.fact p, .fact q]) (pco_o (z := z) (k := k) (n := n) h) ⟨hp, hq, trivial⟩ ⟨⟨rfl, trivial⟩, trivial⟩ X w vs hX ha).mono fun e w' ⟨hg, us, he, h2⟩ => ⟨hg, us, he, zI_is hx h2⟩
end
end Go.Proofs.Yteblgmjpociffaa.Sym
