/- Functions that write into an argument's memory, and results in new memory: the symbolic walk. -/
import Derived.Test.YteblgmjpociffaaGreatSym
namespace Go.Proofs.YteblgmjpociffaaGreat.Sym
open Go.RowKit
section
variable {P : Program} {Φ : Nat -> World -> Value -> Prop} {X : Nat -> Prop}
def freshRes (st : List It) : List C -> Bool
 | [.one a] => st.any fun z => match z with
  | .lo _ b => b.beq a
  | _ => false
 | _ => false
def fnRunFC (P : Program) (fn : Func) (c : Code) (ins : List Out) (ss : List Step) (res : List Out) : Bool :=
 decide (ins.length <= fn.ntmps) && ins.all (fun o => o.sh.good) &&
 match runL P fn.ntmps c (start ins) 1 ss with
 | some (.exit _, _, _, _) => false
 | some (_, st, _, _) => (match fn.results.toList.mapM (resOf P st) with
  | some cs => outFits st cs res && (cs.length == 1) && freshRes st cs
  | none => false)
 | none => false
def fnRunF (P : Program) (fn : Func) (ins : List Out) (ss : List Step) (res : List Out) : Bool := match fn.body with
 | some c => fnRunFC P fn c ins ss res
 | none => false
theorem start_known {ins : List Out} {vs : List Value} {W : World} {n : Nat} (hX : ∀ k, X k -> k < W.heap.size) (hins : outsOk Φ X W ins vs) (hle : ins.length <= n) (hgood : ins.all (fun o => o.sh.good) = true) : Known Φ X { W with drawn := 0 } n (start ins) { tmps := vs.toArray ++ Array.replicate (n - vs.toArray.size) undef, defers := [] } W := by
 have hlen := hins.length
 obtain ⟨e1, e2⟩ := outs_ev (ρ := env0) (k := 0) (l := vs.flatMap cellsOf) (c := 0) hins hgood (fun j u hj => by rw [Nat.zero_add]; exact hj)
 refine ⟨env0.put 0 (vs.flatMap cellsOf), ⟨rfl, by simp; omega, grown_toDr (grown_refl _ _), fun j k g h => by simp [Env.put, env0] at h, fun k g h => by simp [Env.put, env0] at h, hX, fun j k h => h.elim, fun i j k h => by simp [Env.put, env0] at h, fun i j k h => h.elim, ⟨Nat.zero_le _, fun j k _ h => h.elim⟩⟩, fun x hx => ?_⟩
 rcases List.mem_append.1 hx with hx | hx
 ·obtain ⟨m, y, rfl, hm⟩ := params_in 0 hx
  simp only [Nat.zero_add, It.holds, SV.ev]
  have : vs[m]? = some (y.ev (env0.put 0 (vs.flatMap cellsOf))) := by have h := congrArg (fun l : List Value => l[m]?) e1; simp only [List.getElem?_map, hm, Option.map_some] at h; exact h.symm
  have hlt := (List.getElem?_eq_some_iff.1 this).1
  rw [Array.getElem?_append_left (by simpa using hlt)]
  simpa using this
 ·obtain ⟨y, p, rfl, hy⟩ := e2 x hx
  exact fun w1 hw => hy w1 (hw.1 |> fun h1 => ⟨h1, fun k hk hn => hw.2 k hk (fun ho => by
   rcases ho with ho | ⟨j, ho⟩ | ⟨j, -, ho⟩
   ·exact hn ho
   ·simp [Env.put, env0] at ho
   ·exact ho.elim)⟩)
theorem fn_okF {s : Site} {fn : Func} (ins res : List Out) (ss : List Step) (hf : P.funcs[s.f]? = some fn) (hrun : fnRunF P fn ins ss res = true) (hs : ∀ t, t ∈ ss -> LOk P Φ t)
  (hin : ∀ (X : Nat -> Prop) (w : World) (vs : List Value), (∀ k, X k -> k < w.heap.size) -> argsOk Φ X w s.args vs -> outsOk Φ X w ins vs)
  (hout : ∀ (X : Nat -> Prop) (w : World) (us : List Value), outsOk Φ X w res us -> outsOk Φ X w s.outs us) : CallNOk Φ P s := by
 intro X W vs hX hargs
 unfold fnRunF at hrun
 split at hrun
 case h_2 => cases hrun
 rename_i c hb
 simp only [fnRunFC, Bool.and_eq_true, decide_eq_true_eq] at hrun
 obtain ⟨⟨hle, hgood⟩, hrun⟩ := hrun
 refine calls_of_wp hf hb ?_
 have hstart := start_known (n := fn.ntmps) hX (hin X W vs hX hargs) hle hgood
 split at hrun
 case h_1 => cases hrun
 case h_3 => cases hrun
 rename_i x st k' r hne hr
 obtain ⟨_, hw⟩ := runL_ok (X := X) (W := { W with drawn := 0 }) c _ _ _ _ _ _ _ hr Φ hs
 refine hw _ (fun a w hK => ?_) _ _ hstart
 split at hrun
 case h_2 => cases hrun
 rename_i cs hcs
 simp only [Bool.and_eq_true, beq_iff_eq] at hrun
 obtain ⟨ρ, hG, hx⟩ := hK
 have hres := res_ok (P := P) hx hcs
 match cs, hrun with
 | [y], hrun =>
  have hpost : a.defers = [] ∧ ∃ v, (results fn a.tmps).run P w = .ok v w ∧ (W.grownBy w none ∧ ∃ u : Value, Ending.returned v = .returned u ∧ outsOk Φ X w s.outs [u] ∧ ∀ g, blk u = some g -> W.heap.size <= g ∧ g < w.heap.size) := by
   refine ⟨hG.defers, y.ev ρ, ?_, grown_ofDr hG.grown, _, rfl, hout X w _ (out_fits hx hrun.1.1), fun g hg => ?_⟩
   ·rw [results_eq]
    simp [Array.mapM_eq_mapM_toList, hres]
   ·have h2 := hrun.2
    match y, h2 with
    | .one b, h2 =>
     obtain ⟨z, hz, hb⟩ := List.any_eq_true.1 h2
     have hz' := hx z hz
     cases z with
     | lo j c =>
      have e := Atom.eq_of hb
      subst e
      exact hG.loose j g (hz' g hg)
     | _ => cases hb
  cases x with
  | normal => exact hpost
  | ret => exact hpost
  | exit id => exact absurd rfl (hne id)
def Pin (w : World) (v : Value) (w1 : World) (_ : Value) : Prop := Kp w w1 ∧ ∀ k, k < w.heap.size -> blk v ≠ some k -> w1.heap[k]? = w.heap[k]?
theorem Pin.off {w w1 : World} {v u : Value} (h : Off (fun k => blk v = some k) w w1) : Pin w v w1 u := ⟨h.1, fun k hk hb => h.2 k hk hb⟩
def MutWOk (Φ : Nat -> World -> Value -> Prop) (P : Program) (f : FuncId) (ins : List Out) (p : Nat) (res : List Out) (v : Value) (w : World) : Prop := ∀ (W0 : World) (vs : List Value), (vs.flatMap cellsOf).getD 0 undef = v -> W0.grownBy w none ->
 outsOk Φ (fun k => blk v = some k) w ins vs -> (∀ g, blk v = some g -> W0.heap.size <= g ∧ g < w.heap.size) ->
 (∀ w1, Kp w w1 -> (∀ k, k < w.heap.size -> w1.heap[k]? = w.heap[k]?) -> Φ p w1 v) -> Calls P f vs.toArray w fun e w' => ∃ u1 u2 : Value, e = .returned (.tuple #[u1, u2]) ∧ w.grownBy w' (blk v) ∧ Kp w w' ∧ outsOk Φ (fun _ => False) w' res [u1, u2] ∧
  (∀ g, blk u1 = some g -> w.heap.size <= g ∧ g < w'.heap.size) ∧ (∀ g, blk u2 = some g -> w.heap.size <= g ∧ g < w'.heap.size) ∧ ∀ g, blk u1 = some g -> blk u2 ≠ some g
def loOf (st : List It) (a : Atom) : Option Nat := st.findSome? fun z => match z with
 | .lo j b => if b.beq a then some j else none
 | _ => none
theorem loOf_ok {ρ : Env} {a : Act} {w : World} {st : List It} {y : Atom} {j : Nat} (h : loOf st y = some j) (hx : ∀ x, x ∈ st -> x.holds Φ X ρ a w) (g : Nat) (hg : blk (y.ev ρ) = some g) : ρ.o j g := by
 obtain ⟨z, hz, hb⟩ := List.exists_of_findSome?_eq_some h
 have hz' := hx z hz
 split at hb
 ·rename_i i b
  split at hb
  ·rename_i e
   rw [<- Atom.eq_of e] at hg
   exact Option.some.inj hb ▸ hz' g hg
  ·cases hb
 ·cases hb
def freshW (st : List It) : List C -> Bool
 | [.one a, .one b] => match loOf st a, loOf st b with
  | some i, some j => decide (2 <= i) && decide (2 <= j) && !(i == j)
  | _, _ => false
 | _ => false
def fnRunWC (P : Program) (fn : Func) (c : Code) (ins : List Out) (p pn : Nat) (res : List Out) (ss : List Step) : Bool :=
 decide (ins.length <= fn.ntmps) && ins.all (fun o => o.sh.good) &&
 match runL P fn.ntmps c (start ins ++ [.held [1] (.one (.s 0 0)) p, .lo 1 (.s 0 0)]) 1 ss with
 | some (.exit _, _, _, _) => false
 | some (_, st, _, _) => (match fn.results.toList.mapM (resOf P st) with
  | some cs => st.any (isTold (.one (.s 0 0)) pn) && outFits st cs res && freshW st cs
  | none => false)
 | none => false
def fnRunW (P : Program) (fn : Func) (ins : List Out) (p pn : Nat) (res : List Out) (ss : List Step) : Bool := match fn.body with
 | some c => fnRunWC P fn c ins p pn res ss
 | none => false
theorem fn_okW {f : FuncId} {fn : Func} (ins res : List Out) (p pn : Nat) {s0 : Option Addr} {n0 m0 : Nat} {w : World} (ss : List Step) (hpn : Φ pn = Pin w (.slice s0 n0 m0)) (hf : P.funcs[f]? = some fn) (hrun : fnRunW P fn ins p pn res ss = true) (hs : ∀ t, t ∈ ss -> LOk P Φ t) : MutWOk Φ P f ins p res (.slice s0 n0 m0) w := by
 intro W0 vs hv hgr hins hbl hp
 unfold fnRunW at hrun
 split at hrun
 case h_2 => cases hrun
 rename_i co hb
 simp only [fnRunWC, Bool.and_eq_true, decide_eq_true_eq] at hrun
 obtain ⟨⟨hle, hgood⟩, hrun⟩ := hrun
 refine calls_of_wp hf hb ?_
 have hlen := hins.length
 obtain ⟨e1, e2⟩ := outs_ev (ρ := env0) (k := 0) (l := vs.flatMap cellsOf) (c := 0) hins hgood (fun j u hj => by rw [Nat.zero_add]; exact hj)
 have ev0 : ∀ x : Atom, x.ev { env0.put 0 (vs.flatMap cellsOf) with o := fun j k => j = 1 ∧ blk (.slice s0 n0 m0) = some k } = x.ev (env0.put 0 (vs.flatMap cellsOf)) := fun x => ev_o _ _ x
 have evC : ∀ x : C, x.ev { env0.put 0 (vs.flatMap cellsOf) with o := fun j k => j = 1 ∧ blk (.slice s0 n0 m0) = some k } = x.ev (env0.put 0 (vs.flatMap cellsOf)) := fun x => C.ev_o _ _ x
 have hat : (Atom.s 0 0).ev (env0.put 0 (vs.flatMap cellsOf)) = .slice s0 n0 m0 := by
  simp only [Atom.ev, Env.put, if_true, hv, asS]
 have hstart : Known Φ (fun _ => False) { W0 with drawn := w.heap.size } fn.ntmps (start ins ++ [.held [1] (.one (.s 0 0)) p, .lo 1 (.s 0 0)]) { tmps := vs.toArray ++ Array.replicate (fn.ntmps - vs.toArray.size) undef, defers := [] } w := by
  refine ⟨{ env0.put 0 (vs.flatMap cellsOf) with o := fun j k => j = 1 ∧ blk (.slice s0 n0 m0) = some k }, ⟨rfl, by simp; omega, grown_toDr hgr, fun j k g h => by simp [Env.put, env0] at h, fun k g h => by simp [Env.put, env0] at h, fun k h => h.elim, fun j k h => hbl k h.2, fun i j k h => by simp [Env.put, env0] at h, fun i j k h1 h2 => h1.1.trans h2.1.symm, ⟨Nat.le_refl _, fun j k hj h => by have := h.1; omega⟩⟩, fun x hx => ?_⟩
  rcases List.mem_append.1 hx with hx | hx
  ·rcases List.mem_append.1 hx with hx | hx
   ·obtain ⟨m, y, rfl, hm⟩ := params_in 0 hx
    simp only [Nat.zero_add, It.holds, SV.ev]
    rw [evC]
    have : vs[m]? = some (y.ev (env0.put 0 (vs.flatMap cellsOf))) := by have h := congrArg (fun l : List Value => l[m]?) e1; simp only [List.getElem?_map, hm, Option.map_some] at h; exact h.symm
    have hlt := (List.getElem?_eq_some_iff.1 this).1
    rw [Array.getElem?_append_left (by simpa using hlt)]
    simpa using this
   ·obtain ⟨y, p, rfl, hy⟩ := e2 x hx
    refine fun w1 hw => ?_
    rw [evC]
    exact hy w1 (hw.1 |> fun h1 => ⟨h1, fun k hk hn => hw.2 k hk (fun ho => by
     rcases ho with ho | ⟨j, ho⟩ | ⟨j, -, ho⟩
     ·exact ho
     ·simp [Env.put, env0] at ho
     ·exact hn ho.2)⟩)
  ·simp only [List.mem_cons, List.not_mem_nil, or_false] at hx
   rcases hx with rfl | rfl
   ·refine fun w1 hw => ?_
    rw [evC]
    have e : (C.one (.s 0 0)).ev (env0.put 0 (vs.flatMap cellsOf)) = .slice s0 n0 m0 := hat
    rw [e]
    refine hp w1 hw.1 fun k hk => hw.2 k hk (fun ho => ?_)
    rcases ho with ho | ⟨j, ho⟩ | ⟨j, hj, ho⟩
    ·exact ho
    ·simp [Env.put, env0] at ho
    ·exact hj (by rw [ho.1]; exact List.mem_cons_self ..)
   ·intro g hg
    rw [ev0, hat] at hg
    exact ⟨rfl, hg⟩
 split at hrun
 case h_1 => cases hrun
 case h_3 => cases hrun
 rename_i x st k' r hne hr
 obtain ⟨_, hw⟩ := runL_ok (X := fun _ => False) (W := { W0 with drawn := w.heap.size }) co _ _ _ _ _ _ _ hr Φ hs
 refine hw _ (fun a w' hK => ?_) _ _ hstart
 split at hrun
 case h_2 => cases hrun
 rename_i cs hcs
 simp only [Bool.and_eq_true] at hrun
 obtain ⟨⟨hrp, hrf⟩, hrw⟩ := hrun
 obtain ⟨ρ, hG, hx⟩ := hK
 have hres := res_ok (P := P) hx hcs
 have hpin := told_ok hrp hx w' (Off.refl _ _)
 rw [hpn] at hpin
 unfold freshW at hrw
 split at hrw
 case h_2 => cases hrw
 rename_i y1 y2
 split at hrw
 case h_2 => cases hrw
 rename_i i j hi hj
 simp only [Bool.and_eq_true, decide_eq_true_eq, Bool.not_eq_true', beq_eq_false_iff_ne] at hrw
 obtain ⟨⟨h1, h2⟩, h3⟩ := hrw
 have hg := hG.grown
 have hpost : a.defers = [] ∧ ∃ v, (results fn a.tmps).run P w' = .ok v w' ∧ (∃ u1 u2 : Value, Ending.returned v = .returned (.tuple #[u1, u2]) ∧ w.grownBy w' (blk (.slice s0 n0 m0)) ∧ Kp w w' ∧ outsOk Φ (fun _ => False) w' res [u1, u2] ∧ (∀ g, blk u1 = some g -> w.heap.size <= g ∧ g < w'.heap.size) ∧ (∀ g, blk u2 = some g -> w.heap.size <= g ∧ g < w'.heap.size) ∧ ∀ g, blk u1 = some g -> blk u2 ≠ some g) := by
  refine ⟨hG.defers, .tuple #[y1.ev ρ, y2.ev ρ], ?_, _, _, rfl, ⟨hg.os.trans hgr.os.symm, hg.tape.trans hgr.tape.symm, hg.output.trans hgr.output.symm, hpin.1.1, fun k hk hb => hpin.2 k hk fun e => hb e.symm⟩, hpin.1, out_fits hx hrf, fun g hg => ?_, fun g hg => ?_, fun g h4 h5 => ?_⟩
  ·rw [results_eq]
   simp [Array.mapM_eq_mapM_toList, hres, C.ev]
  ·have h := loOf_ok hi hx g hg
   exact ⟨hG.far.2 i g h1 h, (hG.loose i g h).2⟩
  ·have h := loOf_ok hj hx g hg
   exact ⟨hG.far.2 j g h2 h, (hG.loose j g h).2⟩
  ·exact h3 (hG.one i j g (loOf_ok hi hx g h4) (loOf_ok hj hx g h5))
 cases x with
 | normal => exact hpost
 | ret => exact hpost
 | exit id => exact absurd rfl (hne id)
end
end Go.Proofs.YteblgmjpociffaaGreat.Sym
