/- poly.Scale: a function value that has captured a number; products of small numbers. -/
import Derived.Test.YteblgmjpociffaaPolH
import Derived.Test.YteblgmjpociffaaPolL
namespace Go.Proofs.Yteblgmjpociffaa.Sym
open Go.RowKit
theorem Ptr.is {sz : Nat} {F : World → Value → Prop} {w : World} {v : Value} (h : Ptr sz F w v) : (CSh.one .p).is v := by
  obtain ⟨b, o, rfl, _⟩ := h
  exact ⟨⟨_, rfl⟩, fun _ h => by cases h⟩
/-- A function that has captured the address of sz cells that meet G. -/
def Clo (f : FuncId) (sz : Nat) (G : World → Value → Prop) (w : World) (v : Value) : Prop := ∃ p, v = .func (.func f) #[] #[p] ∧ Ptr sz G w p
theorem Clo.is {f : FuncId} {sz : Nat} {G : World → Value → Prop} {w : World} {v : Value} (h : Clo f sz G w v) : (CSh.one .fv).is v := by
  obtain ⟨p, rfl, _⟩ := h
  exact ⟨⟨_, _, rfl⟩, fun _ h => by cases h⟩
def mBox (T : TypeId) : Op → Option (List Operand)
  | .box t x => if t = T then some [x] else none
  | _ => none
def mClos (F : FuncId) : Op → Option (List Operand)
  | .makeFunc (.func f) first captured => if f = F ∧ first = #[] then (match captured.toList with | [x] => some [x] | _ => none) else none
  | _ => none
section
variable {P : Program} {Φ : Nat → World → Value → Prop} {p q x j k : Nat} {z a b : Int}
theorem qBoxI {T : TypeId} {J : List Nat} (hp : ∀ w v, Φ p w v → IntV w v z k) (hx : Φ x = fun w v => Ptr 2 (fun w v => IntV w v z k) w v) : SiteOk Φ P ⟨0, [.fact p], [⟨.one .p, [(0, 0, x)]⟩], .fresh J (mBox T)⟩ := fun X w ac o xs hX hm ha => by
  unfold mBox at hm
  split at hm
  case h_2 => cases hm
  rename_i t y ho
  split at hm
  case isFalse => cases hm
  rename_i ht
  subst ht
  simp only [Option.some.injEq] at hm
  subst hm
  obtain ⟨b0, s0, X0, hv, _⟩ := hp _ _ (ha.1 w (Off.refl _ _))
  have hg := World.grownBy_alloc w (.cells #[.bool b0, s0] t) none
  refine ⟨.pointer (some ⟨w.heap.size, 0, none⟩), w.alloc (.cells #[.bool b0, s0] t), ?_, hg, one_out ⟨⟨_, rfl⟩, fun _ h => by cases h⟩ hx fun w1 hw => ?_⟩
  · unfold execOp
    simp [ho, hv, Instr.box, newVar, newRow, Value.cells]
  · refine ⟨_, _, rfl, [.bool b0, s0], rfl, fun i u hi => ?_, ?_⟩
    · have hbk := hw.2 w.heap.size (by simp) (fun h => by have := hX _ h; omega)
      rw [World.cell?_of_block hbk, World.cell?_alloc_new]
      simpa using hi
    · exact hv ▸ hp _ _ (ha.1 w1 ((Off.grown hg).trans hw fun _ _ h => h))
theorem qClos {f : FuncId} {sz : Nat} {G : World → Value → Prop} (hp : ∀ w v, Φ p w v → Ptr sz G w v) (hx : Φ x = fun w v => Clo f sz G w v) : SiteOk Φ P ⟨0, [.fact p], [⟨.one .fv, [(0, 0, x)]⟩], .quiet (mClos f)⟩ := fun X w ac o xs _ hm ha => by
  unfold mClos at hm
  split at hm
  case h_2 => cases hm
  rename_i g first captured ho
  split at hm
  case isFalse => cases hm
  rename_i hc
  obtain ⟨rfl, rfl⟩ := hc
  split at hm
  case h_2 => cases hm
  rename_i y hy
  simp only [Option.some.injEq] at hm
  subst hm
  have hcap : captured = #[y] := by apply Array.ext'; simpa using hy
  subst hcap
  refine ⟨.func (.func g) #[] #[ac.eval y], w, ?_, grown_refl w none, one_out ⟨⟨_, _, rfl⟩, fun _ h => by cases h⟩ hx fun w1 hw => ⟨_, rfl, hp _ _ (ha.1 w1 hw)⟩⟩
  unfold execOp
  simp [ho, Instr.makeFunc]
end
def b_pscale1 (z y : Int) (k l : Nat) : List (World → Value → Prop) := [fun w v => IntV w v z k, fun w v => Ptr 2 (fun w v => IntV w v y l) w v, fun w v => IntV w v y l, fun w v => NorV w v (z * y) (k + l)]
def ss_pscale1 : List Step := [.base ⟨0, [.fact 1], [⟨.agg [.b, .s], [(0, 0, 2)]⟩], .quiet (mLoad 36)⟩,
      .base ⟨52, [.fact 0, .fact 2], [⟨.agg [.b, .s], [(0, 0, 3)]⟩], false⟩]
def ins_pscale1 : List Out := [⟨.agg [.b, .s], [(0, 0, 0)]⟩, ⟨.one (.p), [(0, 0, 1)]⟩]
set_option maxRecDepth 100000 in
theorem pscale1 {z y : Int} {k l : Nat} (hk : k + l ≤ 400000) : SiteOk (ph (b_pscale1 z y k l)) Try.prog ⟨67, [.fact 0, .fact 1], [⟨.agg [.b, .s], [(0, 0, 3)]⟩], false⟩ := by
  skip
  exact fn_okL ins_pscale1 [⟨.agg [.b, .s], [(0, 0, 3)]⟩] ss_pscale1 Try.func67 (by kernel_rfl)
    (lbase (qLoad (sz := 2) (F := fun w v => IntV w v y l) (by kernel_rfl) (by kernel_rfl) (fun _ _ h => h) (fun _ _ _ g h => IntV.kp h g) (fun _ _ h => IntV.is h) rfl)
      (lbase (sMul iI iI rfl (by omega) rfl)
      lnil))
    (ins_ok [.fact 0 (.agg [.b, .s]), .fact 1 (.one (.p))] ⟨fun _ _ h => IntV.is h, fun _ _ h => Ptr.is (sz := 2) (F := fun w v => IntV w v y l) h, trivial⟩) (fun _ _ _ h => h)

theorem sScale1 {Φ : Nat → World → Value → Prop} {J : List Nat} {f p x k l : Nat} {z y t : Int} (hf : ∀ w v, Φ f w v → Clo 67 2 (fun w v => IntV w v y l) w v) (hp : ∀ w v, Φ p w v → IntV w v z k) (hx : Φ x = fun w v => NorV w v t (k + l)) (hk : k + l ≤ 400000) (ht : z * y = t) : SiteOk Φ Try.prog ⟨67, [.fact f, .fact p], [⟨iS, [(0, 0, x)]⟩], .callV J⟩ := fun X w u vs hX ha => by
  obtain ⟨q, rfl, _⟩ := hf _ _ (ha.1 w (Off.refl _ _))
  match vs, ha.2 with
  | [v], h2 =>
    refine ⟨#[q], rfl, (pscale1 (z := z) (y := y) hk X w [v, q] hX ⟨fun w1 hw => hp _ _ (h2.1 w1 hw), fun w1 hw => ?_, trivial⟩).mono fun e w' ⟨hg, us, he, ho⟩ => ⟨hg, us, he, ?_⟩⟩
    · obtain ⟨q', e, h3⟩ := hf _ _ (ha.1 w1 hw)
      simp only [Value.func.injEq, Array.mk.injEq, List.cons.injEq, and_true, true_and] at e
      exact e ▸ h3
    · exact outMap.ok (Φ := Φ) (Ψ := ph (b_pscale1 z y k l)) (l := [⟨.agg [.b, .s], [(0, 0, 3)]⟩]) (m := [⟨iS, [(0, 0, x)]⟩]) ⟨⟨rfl, ⟨rfl, rfl, fun _ _ h => hx ▸ ht ▸ h⟩, trivial⟩, trivial⟩ ho
def b_each_scale (z : Nat → Int) (y : Int) (n k l : Nat) : List (World → Value → Prop) := [fun w v => Rw 2 (fun ι w v => IntV w v (z ι) k) n w v, fun w v => Clo 67 2 (fun w v => IntV w v y l) w v, fun _ v => v = .int .i64 ((n : Nat) : Int), fun w v => ArrO 2 36 (fun ι w v => NorV w v ((upto 0 (fun i => z i * y)) ι) (k + l)) n w v, fun _ v => v = .int .i64 ((n : Nat) : Int), fun w v => ArrO 2 36 (fun ι w v => NorV w v ((upto n (fun i => z i * y)) ι) (k + l)) n w v, fun w v => Rw 2 (fun ι w v => NorV w v ((upto n (fun i => z i * y)) ι) (k + l)) (tl (upto n (fun i => z i * y)) n) w v]
def l_each_scale_1 (z : Nat → Int) (y : Int) (n k l : Nat) (j : Nat) : List (World → Value → Prop) := [fun _ v => v = .int .i64 ((j : Nat) : Int), fun w v => ArrO 2 36 (fun ι w v => NorV w v ((upto j (fun i => z i * y)) ι) (k + l)) n w v, fun _ _ => True, fun w v => Ptr 2 (fun w v => IntV w v (z j) k) w v, fun w v => IntV w v (z j) k, fun w v => NorV w v ((z j) * y) (k + l), At 2, fun w v => Ptr 2 (fun w v => NorV w v ((upto j (fun i => z i * y)) j) (k + l)) w v, fun w v => ArrO 2 36 (fun ι w v => NorV w v ((upto (j + 1) (fun i => z i * y)) ι) (k + l)) n w v, fun _ v => v = .int .i64 (((j + 1) : Nat) : Int)]
def d_each_scale_1 : LoopD := ⟨[0, 1, 4, 8, 9, 10, 11, 12], [(.slot 13, .i), (.slot 5, .s)], [(.one 0, 7), (.one 1, .at [1] 8), (.one 1, .lo 1)], [.closed (.one (.ci .i64 0)), .from 3, .from 0], 7, [(8, 5)]⟩
def r_each_scale_1_0 : List Step := [.base ⟨0, [.fact 7, .fact 4], [⟨.one (.lit (.cb true)), []⟩], .quiet (mBin .lss)⟩,
      .base ⟨0, [.fact 0, .fact 7], [⟨.one (.p), [(0, 0, 10)]⟩], .quiet (mIdx 23)⟩,
      .base ⟨0, [.fact 10], [⟨.agg [.b, .s], [(0, 0, 11)]⟩], .quiet (mLoad 36)⟩,
      .base ⟨67, [.fact 1, .fact 11], [⟨.agg [.b, .s], [(0, 0, 12)]⟩], .callV []⟩,
      .base ⟨0, [.fact 8, .fact 7], [⟨.one (.p), [(0, 0, 14)]⟩], .joint [1] 13 (mIdx 23)⟩,
      .base ⟨0, [.fact 8, .fact 7, .any, .fact 12], [⟨.one .s, [(0, 0, 15)]⟩], .put [] 1 0 13 (mPut 36 (.tmp 18) (.tmp 19))⟩,
      .base ⟨0, [.fact 7, .lit (.ci .i64 1)], [⟨.one (.i), [(0, 0, 16)]⟩], .quiet (mBin .add)⟩]
def o_each_scale_1 : List Step := [.base ⟨0, [.fact 7, .fact 4], [⟨.one (.lit (.cb false)), []⟩], .quiet (mBin .lss)⟩]
def ss_each_scale : List Step := [.base ⟨0, [.fact 0], [⟨.one (.i), [(0, 0, 2)]⟩], .quiet (mLen 23)⟩,
      .base ⟨0, [.fact 2, .fact 2], [⟨.one (.s), [(0, 0, 3)]⟩], .loose [] 1 0 (mMake 23)⟩,
      .base ⟨0, [.fact 0], [⟨.one (.i), [(0, 0, 4)]⟩], .quiet (mLen 23)⟩,
      .loop d_each_scale_1 [(r_each_scale_1_0, [.from 16, .from 15, .from 0])] o_each_scale_1,
      .base ⟨51, [.fact 5], [⟨.one (.s), [(0, 0, 6)]⟩], .callJ [1] false⟩]
def ins_each_scale : List Out := [⟨.one (.s), [(0, 0, 0)]⟩, ⟨.one (.fv), [(0, 0, 1)]⟩]
set_option maxRecDepth 100000 in
theorem each_scale {z : Nat → Int} {y : Int} {n k l : Nat} (hn : n ≤ 1000000) (hk : k + l ≤ 400000) : SiteOk (ph (b_each_scale z y n k l)) Try.prog ⟨47, [.fact 0, .fact 1], [⟨.one (.s), [(0, 0, 6)]⟩], false⟩ := by
  skip
  exact fn_okL ins_each_scale [⟨.one (.s), [(0, 0, 6)]⟩] ss_each_scale Try.func47 (by kernel_rfl)
    (lbase (qLen (sz := 2) (n := n) (F := (fun ι w v => IntV w v (z ι) k)) Try.underlying23 (fun _ _ h => Rw.arr h) rfl)
      (lbase (qMakeI (n := n) (F := (fun ι w v => NorV w v ((upto 0 (fun i => z i * y)) ι) (k + l))) (fun _ _ h => h) (by omega) (fun i w => NorV.zero w (k + l)) rfl)
      (lbase (qLen (sz := 2) (n := n) (F := (fun ι w v => IntV w v (z ι) k)) Try.underlying23 (fun _ _ h => Rw.arr h) rfl)
      (lloop (counted n (fun j => ph (b_each_scale z y n k l ++ l_each_scale_1 z y n k l j)) (fun _ => 0) (fun j p hp => ph_app' (show p < (b_each_scale z y n k l).length from hp)) ⟨fun _ => rfl, fun _ _ h => h, fun _ _ _ => trivial, trivial⟩ (fun j hj => by
      skip
      exact ⟨(r_each_scale_1_0, [.from 16, .from 15, .from 0]), rfl, ⟨fun _ _ h => h, fun _ _ h => h, fun _ _ _ => trivial, trivial⟩, (lbase (qTest (op := .lss) (fun _ _ h => h) (fun _ _ h => h) (ts_run (decide_eq_true (by omega)) (by simp)))
      (lbase (qIdx (i := j) (sz := 2) (n := n) (F := (fun ι w v => IntV w v (z ι) k)) Try.underlying23 (by kernel_rfl) (fun _ _ h => Rw.arr h) (fun _ _ h => h) (by omega) rfl)
      (lbase (qLoad (sz := 2) (F := fun w v => IntV w v (z j) k) (by kernel_rfl) (by kernel_rfl) (fun _ _ h => h) (fun _ _ _ g h => IntV.kp h g) (fun _ _ h => IntV.is h) rfl)
      (lbase (sScale1 (fun _ _ h => h) iI rfl (by omega) rfl)
      (lbase (qIdxJ (i := j) (sz := 2) (n := n) (F := (fun ι w v => NorV w v ((upto j (fun i => z i * y)) ι) (k + l))) Try.underlying23 (by kernel_rfl) (fun _ _ h => ArrO.arr h) (fun _ _ h => h) (by omega) rfl rfl)
      (lbase (qPutR (i := j) (n := n) (F := (fun ι w v => NorV w v ((upto j (fun i => z i * y)) ι) (k + l))) (F' := (fun ι w v => NorV w v ((upto (j + 1) (fun i => z i * y)) ι) (k + l))) (G := fun w v => NorV w v ((z j) * y) (k + l)) (.tmp 18) (.tmp 19) (by kernel_rfl) (fun _ _ h => h) (fun _ _ h => h) (by omega) (fun _ _ h => h) rfl (fun _ _ h => NorV.cells h) (fun _ _ _ _ g h => NorV.kp h g) (fun _ _ _ g h => NorV.kp h g) (fun i w v hi h => by rw [upto_ne hi]; exact h) (fun w v h => h.eq (upto_self j (fun i => z i * y)).symm) rfl)
      (lbase (qAddK (fun _ _ h => h) (by omega) rfl (by omega) (by omega))
      lnil)))))))⟩)
      (lbase (qTest (op := .lss) (fun _ _ h => h) (fun _ _ h => h) (ts_run (decide_eq_false (by omega)) (by simp)))
      lnil)
      (fun q hq w v h => by
        simp only [d_each_scale_1, List.mem_cons, List.not_mem_nil, or_false] at hq
        rcases hq with rfl
        · exact (fun h => h) h)) (lbase (onJ [1] (sTrim (z := (upto n (fun i => z i * y))) (n := n) (k := (k + l)) (F := (fun ι w v => NorV w v ((upto n (fun i => z i * y)) ι) (k + l))) (fun _ _ h => ArrO.rw h) (fun _ _ _ h => NorV.i h) (fun _ _ _ _ g h => NorV.kp h g) rfl (by omega) (by omega)))
      lnil)))))
    (ins_ok [.fact 0 (.one (.s)), .fact 1 (.one (.fv))] ⟨fun _ _ h => Rw.is (sz := 2) (F := (fun ι w v => IntV w v (z ι) k)) (n := n) h, fun _ _ h => Clo.is (f := 67) (sz := 2) (G := fun w v => IntV w v y l) h, trivial⟩) (fun _ _ _ h => h)

section
variable {Φ : Nat → World → Value → Prop} {p q x n k l : Nat} {z : Nat → Int} {y : Int} {L : List Int}
theorem sEach_scale (hp : ∀ w v, Φ p w v → Rw 2 (fun i w v => IntV w v (z i) k) n w v) (hq : ∀ w v, Φ q w v → Clo 67 2 (fun w v => IntV w v y l) w v) (hx : Φ x = fun w v => Rw 2 (fun i w v => NorV w v (coef L i) (k + l)) L.length w v) (hn : n ≤ 1000000) (hk : k + l ≤ 400000) (hL : trimL (mk n (fun i => z i * y)) = L) : SiteOk Φ Try.prog ⟨47, [.fact p, .fact q], [⟨.one .s, [(0, 0, x)]⟩], false⟩ :=
  viaG (each_scale hn hk) ⟨hp, hq, trivial⟩ ⟨⟨rfl, ⟨rfl, rfl, fun _ _ h => hx ▸ hL ▸ rowTrim h⟩, trivial⟩, trivial⟩
def b_pscale (z : Nat → Int) (y : Int) (n k l : Nat) : List (World → Value → Prop) := [fun w v => Rw 2 (fun ι w v => IntV w v (z ι) k) n w v, fun w v => IntV w v y l, fun w v => Ptr 2 (fun w v => IntV w v y l) w v, fun w v => Clo 67 2 (fun w v => IntV w v y l) w v, fun w v => Rw 2 (fun ι w v => NorV w v ((coef (trimL (mk n (fun i => z i * y)))) ι) (k + l)) ((trimL (mk n (fun i => z i * y))).length) w v]
def ss_pscale : List Step := [.base ⟨0, [.fact 1], [⟨.one (.p), [(0, 0, 2)]⟩], .fresh [] (mBox 36)⟩,
      .base ⟨0, [.fact 2], [⟨.one (.fv), [(0, 0, 3)]⟩], .quiet (mClos 67)⟩,
      .base ⟨47, [.fact 0, .fact 3], [⟨.one (.s), [(0, 0, 4)]⟩], false⟩]
def ins_pscale : List Out := [⟨.one (.s), [(0, 0, 0)]⟩, ⟨.agg [.b, .s], [(0, 0, 1)]⟩]
set_option maxRecDepth 100000 in
theorem pscale {z : Nat → Int} {y : Int} {n k l : Nat} (hn : n ≤ 1000000) (hk : k + l ≤ 400000) : SiteOk (ph (b_pscale z y n k l)) Try.prog ⟨32, [.fact 0, .fact 1], [⟨.one (.s), [(0, 0, 4)]⟩], false⟩ := by
  skip
  exact fn_okL ins_pscale [⟨.one (.s), [(0, 0, 4)]⟩] ss_pscale Try.func32 (by kernel_rfl)
    (lbase (qBoxI iI rfl)
      (lbase (qClos (sz := 2) (G := fun w v => IntV w v y l) (fun _ _ h => h) rfl)
      (lbase (sEach_scale (fun _ _ h => Rw.to (sz := 2) (n := n) (F := (fun ι w v => IntV w v (z ι) k)) (h) (fun i w v _ h => (fun _ _ _ h => h) i w v h)) (fun _ _ h => h) rfl (by omega) (by omega) rfl)
      lnil)))
    (ins_ok [.fact 0 (.one (.s)), .fact 1 (.agg [.b, .s])] ⟨fun _ _ h => Rw.is (sz := 2) (F := (fun ι w v => IntV w v (z ι) k)) (n := n) h, fun _ _ h => IntV.is h, trivial⟩) (fun _ _ _ h => h)

theorem sScaleP (hp : ∀ w v, Φ p w v → Rw 2 (fun i w v => IntV w v (z i) k) n w v) (hq : ∀ w v, Φ q w v → IntV w v y l) (hx : Φ x = fun w v => Rw 2 (fun i w v => NorV w v (coef L i) (k + l)) L.length w v) (hn : n ≤ 1000000) (hk : k + l ≤ 400000) (hL : trimL (mk n (fun i => z i * y)) = L) : SiteOk Φ Try.prog ⟨32, [.fact p, .fact q], [⟨.one .s, [(0, 0, x)]⟩], false⟩ :=
  viaG (pscale hn hk) ⟨hp, hq, trivial⟩ ⟨⟨rfl, ⟨rfl, rfl, fun _ _ h => hx ▸ hL ▸ h⟩, trivial⟩, trivial⟩
end
end Go.Proofs.Yteblgmjpociffaa.Sym
