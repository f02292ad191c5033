/- Functions that write into an argument's memory, and results in new memory: the symbolic walk. -/
import Derived.Test.YteblgmjpociffaaSym
namespace Go.Proofs.Yteblgmjpociffaa.Sym
open Go.RowKit
section
variable {P : Program} {Φ : Nat → World → Value → Prop} {X : Nat → Prop}
def freshRes (st : List It) : List C → Bool
  | [.one a] => st.any fun z => match z with
    | .lo _ b => b.beq a
    | _ => false
  | _ => false
def fnRunFC (P : Program) (fn : Func) (c : Code) (ins : List Out) (ss : List Step) (res : List Out) : Bool :=
  decide (ins.length ≤ fn.ntmps) && ins.all (fun o => o.sh.good) &&
  match runL P fn.ntmps c (start ins) 1 ss with
  | some (.exit _, _, _, _) => false
  | some (_, st, _, _) => (match fn.results.toList.mapM (resOf P st) with
    | some cs => outFits st cs res && (cs.length == 1) && freshRes st cs
    | none => false)
  | none => false
def fnRunF (P : Program) (fn : Func) (ins : List Out) (ss : List Step) (res : List Out) : Bool := match fn.body with
  | some c => fnRunFC P fn c ins ss res
  | none => false
theorem start_known {ins : List Out} {vs : List Value} {W : World} {n : Nat} (hX : ∀ k, X k → k < W.heap.size) (hins : outsOk Φ X W ins vs) (hle : ins.length ≤ n) (hgood : ins.all (fun o => o.sh.good) = true) : Known Φ X { W with drawn := 0 } n (start ins) { tmps := vs.toArray ++ Array.replicate (n - vs.toArray.size) undef, defers := [] } W := by
  have hlen := hins.length
  obtain ⟨e1, e2⟩ := outs_ev (ρ := env0) (k := 0) (l := vs.flatMap cellsOf) (c := 0) hins hgood (fun j u hj => by rw [Nat.zero_add]; exact hj)
  refine ⟨env0.put 0 (vs.flatMap cellsOf), ⟨rfl, by simp; omega, grown_toDr (grown_refl _ _), fun j k g h => by simp [Env.put, env0] at h, fun k g h => by simp [Env.put, env0] at h, hX, fun j k h => h.elim, fun i j k h => by simp [Env.put, env0] at h, fun i j k h => h.elim, ⟨Nat.zero_le _, fun j k _ h => h.elim⟩⟩, fun x hx => ?_⟩
  rcases List.mem_append.1 hx with hx | hx
  · obtain ⟨m, y, rfl, hm⟩ := params_in 0 hx
    simp only [Nat.zero_add, It.holds, SV.ev]
    have : vs[m]? = some (y.ev (env0.put 0 (vs.flatMap cellsOf))) := by have h := congrArg (fun l : List Value => l[m]?) e1; simp only [List.getElem?_map, hm, Option.map_some] at h; exact h.symm
    have hlt := (List.getElem?_eq_some_iff.1 this).1
    rw [Array.getElem?_append_left (by simpa using hlt)]
    simpa using this
  · obtain ⟨y, p, rfl, hy⟩ := e2 x hx
    exact fun w1 hw => hy w1 (hw.1 |> fun h1 => ⟨h1, fun k hk hn => hw.2 k hk (fun ho => by
      rcases ho with ho | ⟨j, ho⟩ | ⟨j, -, ho⟩
      · exact hn ho
      · simp [Env.put, env0] at ho
      · exact ho.elim)⟩)
/-- A function whose result lies in new memory. -/
theorem fn_okF {s : Site} {fn : Func} (ins res : List Out) (ss : List Step) (hf : P.funcs[s.f]? = some fn) (hrun : fnRunF P fn ins ss res = true) (hs : ∀ t, t ∈ ss → LOk P Φ t)
    (hin : ∀ (X : Nat → Prop) (w : World) (vs : List Value), (∀ k, X k → k < w.heap.size) → argsOk Φ X w s.args vs → outsOk Φ X w ins vs)
    (hout : ∀ (X : Nat → Prop) (w : World) (us : List Value), outsOk Φ X w res us → outsOk Φ X w s.outs us) : CallNOk Φ P s := by
  intro X W vs hX hargs
  unfold fnRunF at hrun
  split at hrun
  case h_2 => cases hrun
  rename_i c hb
  simp only [fnRunFC, Bool.and_eq_true, decide_eq_true_eq] at hrun
  obtain ⟨⟨hle, hgood⟩, hrun⟩ := hrun
  refine calls_of_wp hf hb ?_
  have hstart := start_known (n := fn.ntmps) hX (hin X W vs hX hargs) hle hgood
  split at hrun
  case h_1 => cases hrun
  case h_3 => cases hrun
  rename_i x st k' r hne hr
  obtain ⟨_, hw⟩ := runL_ok (X := X) (W := { W with drawn := 0 }) c _ _ _ _ _ _ _ hr Φ hs
  refine hw _ (fun a w hK => ?_) _ _ hstart
  split at hrun
  case h_2 => cases hrun
  rename_i cs hcs
  simp only [Bool.and_eq_true, beq_iff_eq] at hrun
  obtain ⟨ρ, hG, hx⟩ := hK
  have hres := res_ok (P := P) hx hcs
  match cs, hrun with
  | [y], hrun =>
    have hpost : a.defers = [] ∧ ∃ v, (results fn a.tmps).run P w = .ok v w ∧ (W.grownBy w none ∧ ∃ u : Value, Ending.returned v = .returned u ∧ outsOk Φ X w s.outs [u] ∧ ∀ g, blk u = some g → W.heap.size ≤ g ∧ g < w.heap.size) := by
      refine ⟨hG.defers, y.ev ρ, ?_, grown_ofDr hG.grown, _, rfl, hout X w _ (out_fits hx hrun.1.1), fun g hg => ?_⟩
      · rw [results_eq]
        simp [Array.mapM_eq_mapM_toList, hres]
      · have h2 := hrun.2
        match y, h2 with
        | .one b, h2 =>
          obtain ⟨z, hz, hb⟩ := List.any_eq_true.1 h2
          have hz' := hx z hz
          cases z with
          | lo j c =>
            have e := Atom.eq_of hb
            subst e
            exact hG.loose j g (hz' g hg)
          | _ => cases hb
    cases x with
    | normal => exact hpost
    | ret => exact hpost
    | exit id => exact absurd rfl (hne id)
/-- What a function is held to that writes into v's block, v being its first cell: made since W0, v meets p before, all of qs behind. -/
def MutOk (Φ : Nat → World → Value → Prop) (P : Program) (f : FuncId) (ins : List Out) (p : Nat) (qs : List Nat) (v : Value) (w : World) : Prop := ∀ (X : Nat → Prop) (W0 : World) (vs : List Value), (vs.flatMap cellsOf).getD 0 undef = v → W0.grownBy w none → (∀ k, X k → k < W0.heap.size) →
  outsOk Φ (fun k => X k ∨ blk v = some k) w ins vs → (∀ g, blk v = some g → W0.heap.size ≤ g ∧ g < w.heap.size) →
  (∀ w1, Off X w w1 → Φ p w1 v) → Calls P f vs.toArray w fun e w' => W0.grownBy w' none ∧ e = .returned (.tuple #[]) ∧ ∀ q, q ∈ qs → ∀ w1, Off X w' w1 → Φ q w1 v
/-- Nothing of w but v's block differs, and all numbers are as they were. -/
def Pin (w : World) (v : Value) (w1 : World) (_ : Value) : Prop := Kp w w1 ∧ ∀ k, k < w.heap.size → blk v ≠ some k → w1.heap[k]? = w.heap[k]?
theorem Pin.off {w w1 : World} {v u : Value} (h : Off (fun k => blk v = some k) w w1) : Pin w v w1 u := ⟨h.1, fun k hk hb => h.2 k hk hb⟩
def fnRunMC (P : Program) (fn : Func) (c : Code) (ins : List Out) (p : Nat) (qs : List Nat) (pe : Nat) (ss : List Step) : Bool :=
  decide (ins.length ≤ fn.ntmps) && ins.all (fun o => o.sh.good) && fn.results.isEmpty &&
  match runL P fn.ntmps c (start ins ++ [.held [1] (.one (.s 0 0)) p, .lo 1 (.s 0 0)]) 1 ss with
  | some (.exit _, _, _, _) => false
  | some (_, st, _, _) => (match findSlot st 0 with
    | some (.c (.one y)) => qs.all (fun q => st.any (isTold (.one y) q)) && st.any (isTold (.one y) pe)
    | _ => false)
  | none => false
def fnRunM (P : Program) (fn : Func) (ins : List Out) (p : Nat) (qs : List Nat) (pe : Nat) (ss : List Step) : Bool := match fn.body with
  | some c => fnRunMC P fn c ins p qs pe ss
  | none => false
theorem fn_okM {f : FuncId} {fn : Func} (ins : List Out) (p : Nat) (qs : List Nat) (pe : Nat) {s0 : Option Addr} {n0 m0 : Nat} {w : World} (ss : List Step) (hpe : Φ pe = fun _ u => u = .slice s0 n0 m0) (hf : P.funcs[f]? = some fn) (hrun : fnRunM P fn ins p qs pe ss = true) (hs : ∀ t, t ∈ ss → LOk P Φ t) : MutOk Φ P f ins p qs (.slice s0 n0 m0) w := by
  intro X W0 vs hv hgr hX hins hbl hp
  unfold fnRunM at hrun
  split at hrun
  case h_2 => cases hrun
  rename_i co hb
  simp only [fnRunMC, Bool.and_eq_true, decide_eq_true_eq] at hrun
  obtain ⟨⟨⟨hle, hgood⟩, hres⟩, hrun⟩ := hrun
  refine calls_of_wp hf hb ?_
  have hlen := hins.length
  obtain ⟨e1, e2⟩ := outs_ev (ρ := env0) (k := 0) (l := vs.flatMap cellsOf) (c := 0) hins hgood (fun j u hj => by rw [Nat.zero_add]; exact hj)
  have ev0 : ∀ x : Atom, x.ev { env0.put 0 (vs.flatMap cellsOf) with o := fun j k => j = 1 ∧ blk (.slice s0 n0 m0) = some k } = x.ev (env0.put 0 (vs.flatMap cellsOf)) := fun x => ev_o _ _ x
  have evC : ∀ x : C, x.ev { env0.put 0 (vs.flatMap cellsOf) with o := fun j k => j = 1 ∧ blk (.slice s0 n0 m0) = some k } = x.ev (env0.put 0 (vs.flatMap cellsOf)) := fun x => C.ev_o _ _ x
  have hat : (Atom.s 0 0).ev (env0.put 0 (vs.flatMap cellsOf)) = .slice s0 n0 m0 := by
    simp only [Atom.ev, Env.put, if_true, hv, asS]
  have hstart : Known Φ X { W0 with drawn := 0 } fn.ntmps (start ins ++ [.held [1] (.one (.s 0 0)) p, .lo 1 (.s 0 0)]) { tmps := vs.toArray ++ Array.replicate (fn.ntmps - vs.toArray.size) undef, defers := [] } w := by
    refine ⟨{ env0.put 0 (vs.flatMap cellsOf) with o := fun j k => j = 1 ∧ blk (.slice s0 n0 m0) = some k }, ⟨rfl, by simp; omega, grown_toDr hgr, fun j k g h => by simp [Env.put, env0] at h, fun k g h => by simp [Env.put, env0] at h, hX, fun j k h => hbl k h.2, fun i j k h => by simp [Env.put, env0] at h, fun i j k h1 h2 => h1.1.trans h2.1.symm, ⟨Nat.zero_le _, fun _ _ _ _ => Nat.zero_le _⟩⟩, fun x hx => ?_⟩
    rcases List.mem_append.1 hx with hx | hx
    · rcases List.mem_append.1 hx with hx | hx
      · obtain ⟨m, y, rfl, hm⟩ := params_in 0 hx
        simp only [Nat.zero_add, It.holds, SV.ev]
        rw [evC]
        have : vs[m]? = some (y.ev (env0.put 0 (vs.flatMap cellsOf))) := by have h := congrArg (fun l : List Value => l[m]?) e1; simp only [List.getElem?_map, hm, Option.map_some] at h; exact h.symm
        have hlt := (List.getElem?_eq_some_iff.1 this).1
        rw [Array.getElem?_append_left (by simpa using hlt)]
        simpa using this
      · obtain ⟨y, p, rfl, hy⟩ := e2 x hx
        refine fun w1 hw => ?_
        rw [evC]
        exact hy w1 (hw.1 |> fun h1 => ⟨h1, fun k hk hn => hw.2 k hk (fun ho => by
          rcases ho with ho | ⟨j, ho⟩ | ⟨j, -, ho⟩
          · exact hn (.inl ho)
          · simp [Env.put, env0] at ho
          · exact hn (.inr ho.2))⟩)
    · simp only [List.mem_cons, List.not_mem_nil, or_false] at hx
      rcases hx with rfl | rfl
      · refine fun w1 hw => ?_
        rw [evC]
        have e : (C.one (.s 0 0)).ev (env0.put 0 (vs.flatMap cellsOf)) = .slice s0 n0 m0 := hat
        rw [e]
        refine hp w1 ⟨hw.1, fun k hk hn => hw.2 k hk (fun ho => ?_)⟩
        rcases ho with ho | ⟨j, ho⟩ | ⟨j, hj, ho⟩
        · exact hn ho
        · simp [Env.put, env0] at ho
        · exact hj (by rw [ho.1]; exact List.mem_cons_self ..)
      · intro g hg
        rw [ev0, hat] at hg
        exact ⟨rfl, hg⟩
  split at hrun
  case h_1 => cases hrun
  case h_3 => cases hrun
  rename_i x st k' r hne hr
  obtain ⟨_, hw⟩ := runL_ok (X := X) (W := { W0 with drawn := 0 }) co _ _ _ _ _ _ _ hr Φ hs
  refine hw _ (fun a w' hK => ?_) _ _ hstart
  split at hrun
  case h_2 => cases hrun
  rename_i y hy
  simp only [Bool.and_eq_true] at hrun
  obtain ⟨ρ, hG, hx⟩ := hK
  have heq : (C.one y).ev ρ = .slice s0 n0 m0 := by
    have := told_ok hrun.2 hx w' (Off.refl _ _)
    rw [hpe] at this; exact this
  have hpost : a.defers = [] ∧ ∃ v, (results fn a.tmps).run P w' = .ok v w' ∧ (W0.grownBy w' none ∧ Ending.returned v = .returned (.tuple #[]) ∧ ∀ q, q ∈ qs → ∀ w1, Off X w' w1 → Φ q w1 (.slice s0 n0 m0)) := by
    refine ⟨hG.defers, .tuple #[], ?_, grown_ofDr hG.grown, rfl, fun q hq w1 hw1 => ?_⟩
    · have h0 : fn.results = #[] := by simpa using hres
      rw [results_eq, h0]
      simp
    · have := told_ok (List.all_eq_true.1 hrun.1 q hq) hx w1 hw1
      rwa [heq] at this
  cases x with
  | normal => exact hpost
  | ret => exact hpost
  | exit id => exact absurd rfl (hne id)
theorem mut_call {Ψ : Nat → World → Value → Prop} {f : FuncId} {ins : List Out} {p q pn : Nat} {v : Value} {W0 w : World} {vs : List Value} (h : MutOk Ψ P f ins p [q, pn] v w) (hpn : Ψ pn = Pin w v) (hv : (vs.flatMap cellsOf).getD 0 undef = v) (hg : W0.grownBy w none) (hin : outsOk Ψ (fun k => blk v = some k) w ins vs) (hb : ∀ g, blk v = some g → W0.heap.size ≤ g ∧ g < w.heap.size) (hp : ∀ w1, Kp w w1 → (∀ k, k < w.heap.size → w1.heap[k]? = w.heap[k]?) → Ψ p w1 v) :
    Calls P f vs.toArray w fun e w' => e = .returned (.tuple #[]) ∧ w.grownBy w' (blk v) ∧ Kp w w' ∧ Ψ q w' v := by
  refine (h (fun _ => False) W0 vs hv hg (fun _ h => h.elim) ?_ hb (fun w1 hw => hp w1 hw.1 fun k hk => hw.2 k hk fun h => h)).mono fun e w' ⟨h1, h2, h3⟩ => ?_
  · have e : (fun k => False ∨ blk v = some k) = fun k => blk v = some k := by funext k; simp
    rw [e]; exact hin
  · have hpin := h3 pn (List.mem_cons_of_mem _ (List.mem_cons_self ..)) w' (Off.refl _ _)
    rw [hpn] at hpin
    exact ⟨h2, ⟨h1.os.trans hg.os.symm, h1.tape.trans hg.tape.symm, h1.output.trans hg.output.symm, hpin.1.1, fun k hk hb => hpin.2 k hk fun e => hb e.symm⟩, hpin.1, h3 q (List.mem_cons_self ..) w' (Off.refl _ _)⟩
end
end Go.Proofs.Yteblgmjpociffaa.Sym
