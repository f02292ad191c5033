/- Rows of values of one cell each, made at once, in memory that is never written to again: as an operation of the symbolic walk. -/
import Derived.Test.YtncaiomdcpppeaaGreatPolX
namespace Go.Proofs.YtncaiomdcpppeaaGreat.Sym
open Go.RowKit
def mRow (T : TypeId) (n : Nat) : Op → Option (List Operand)
  | .buildSlice t l parts => if t = T ∧ l = n ∧ parts.toList.map (·.1) = List.range n then some (.const (.int .i64 0) :: parts.toList.map (·.2)) else none
  | _ => none
theorem fill_ones : ∀ (vs pre post : List Value), (∀ v, v ∈ vs → v.cells = #[v]) → post.length = vs.length → Instr.fill (fun i => some (i * 1, 1)) (pre ++ post).toArray ((List.range' pre.length vs.length).zip vs) = some (pre ++ vs).toArray
  | [], pre, post, _, hl => by
    have : post = [] := List.eq_nil_of_length_eq_zero hl
    subst this; rfl
  | v :: vs, pre, [], _, hl => by simp at hl
  | v :: vs, pre, x :: post, hv, hl => by
    have h1 := hv v (List.mem_cons_self ..)
    have ih := fill_ones vs (pre ++ [v]) post (fun u hu => hv u (List.mem_cons_of_mem _ hu)) (by simpa using hl)
    have e : List.range' pre.length (v :: vs).length = pre.length :: List.range' (pre ++ [v]).length vs.length := by simp [List.range'_succ]
    rw [e, List.zip_cons_cons, Instr.fill]
    simp only [h1]
    have e2 : ((pre ++ x :: post).toArray).setIfInBounds (pre.length * 1 + 0) v = (pre ++ [v] ++ post).toArray := by
      simp [List.set_append_right]
    rw [if_neg (by simp)]
    have e3 : (#[v].zipIdx.foldl (fun cs (c, j) => cs.setIfInBounds (pre.length * 1 + j) c) (pre ++ x :: post).toArray) = (pre ++ [v] ++ post).toArray := by
      rw [← e2]; rfl
    rw [e3, ih]
    simp
theorem parts_zip {α β γ : Type} (f : β → γ) : ∀ {l : List (α × β)} {r : List α}, l.map (·.1) = r → l.map (fun q => (q.1, f q.2)) = r.zip ((l.map (·.2)).map f)
  | [], r, h => by subst h; rfl
  | (a, b) :: l, r, h => by
    subst h
    simp only [List.map_cons, List.zip_cons_cons]
    rw [parts_zip f (l := l) rfl]
section
variable {P : Program} {Φ : Nat → World → Value → Prop} {x j n : Nat} {F : Nat → World → Value → Prop}
theorem row_args {X : Nat → Prop} {w : World} : ∀ {ps : List Nat} {vs : List Value}, argsOk Φ X w (ps.map Arg.fact) vs → vs.length = ps.length ∧ ∀ (i p : Nat) (v : Value), ps[i]? = some p → vs[i]? = some v → ∀ w1, Off X w w1 → Φ p w1 v
  | [], [], _ => ⟨rfl, fun i p v h => by simp at h⟩
  | p :: ps, v :: vs, h => by
    obtain ⟨h1, h2⟩ := row_args h.2
    refine ⟨by simp [h1], fun i q u hq hu => ?_⟩
    cases i with
    | zero =>
      simp only [List.getElem?_cons_zero, Option.some.injEq] at hq hu
      subst hq hu; exact h.1
    | succ i => exact h2 i q u (by simpa using hq) (by simpa using hu)
  | [], _ :: _, h => h.elim
  | _ :: _, [], h => h.elim
/-- A row of n values of one cell each, the i-th of which meets what its fact tells. -/
theorem qRow {T e : TypeId} {ps : List Nat} (hT : P.underlying T = some (.slice e)) (hz : sizeAt P e = some 1) {zc : C} (h0 : zeroAt P e = some zc) (_hzc : zc.cells.length = 1) (hn : 0 < n ∧ n ≤ 1000) (hl : ps.length = n) (hF : ∀ i p, ps[i]? = some p → ∀ w v, Φ p w v → v.cells = #[v] ∧ F i w (.agg #[v])) (hx : Φ x = fun w v => Rw 1 F n w v) :
    SiteOk Φ P ⟨0, .any :: ps.map Arg.fact, [⟨.one .s, [(0, 0, x)]⟩], .loose [] j 0 (mRow T n)⟩ := fun X L w ac o xs hX hL hLX hm ha hb => by
  unfold mRow at hm
  split at hm
  case h_2 => cases hm
  rename_i t len parts ho
  split at hm
  case isFalse => cases hm
  rename_i hc
  obtain ⟨rfl, rfl, hr⟩ := hc
  simp only [Option.some.injEq] at hm
  subst hm
  obtain ⟨hvl, hv⟩ := row_args ha.2
  generalize hvs : (parts.toList.map (·.2)).map ac.eval = vs at *
  have hone : ∀ v, v ∈ vs → v.cells = #[v] := fun v hv' => by
    obtain ⟨i, hi, rfl⟩ := List.mem_iff_getElem.1 hv'
    have hp : ps[i]? = some ps[i] := List.getElem?_eq_getElem (by omega)
    exact (hF i _ hp w _ (hv i _ _ hp (List.getElem?_eq_getElem hi) w (Off.refl _ _))).1
  have hlen : vs.length = len := by omega
  have hparts : (parts.map fun (q : Nat × Operand) => (q.1, ac.eval q.2)).toList = (List.range' 0 vs.length).zip vs := by
    have e3 : (parts.map fun (q : Nat × Operand) => (q.1, ac.eval q.2)).toList = parts.toList.map fun q => (q.1, ac.eval q.2) := by simp
    rw [e3, parts_zip ac.eval hr, hvs, hlen, List.range_eq_range']
  have hfill : Instr.fill (fun i => some (i * 1, 1)) ((Array.range (len * 1)).map fun j => ((zc.cells.map (Atom.ev env0)).toArray)[j % (zc.cells.map (Atom.ev env0)).toArray.size]!) ((List.range' 0 vs.length).zip vs) = some vs.toArray := by
    generalize hA : ((Array.range (len * 1)).map fun j => ((zc.cells.map (Atom.ev env0)).toArray)[j % (zc.cells.map (Atom.ev env0)).toArray.size]!) = A
    have hs : A.size = len := by rw [← hA]; simp
    have e : A = ([] ++ A.toList).toArray := by simp
    rw [e]
    exact fill_ones vs [] A.toList hone (by simp [hs, hlen])
  have hrun : (execOp ac.eval o).run P w = .ok (.value (.slice (some ⟨w.heap.size, 0, none⟩) len len)) (w.alloc (.cells vs.toArray e)) := by
    have e5 : ¬ (len * 1 > 2 ^ 24) := by omega
    have h2 : ¬ (len * 1 = 0) := by omega
    unfold execOp
    simp only [ho]
    simp only [Instr.buildSlice, Sem.run_bind, run_underlying hT, Result.andThen_ok, run_sizeOf hz]
    rw [Sem.run_ite, if_neg e5]
    simp only [if_neg h2, Sem.run_bind, run_zero h0 env0, Result.andThen_ok, cells_ev, Sem.run_pure]
    rw [show (parts.map fun x => match x with | (i, x) => (i, ac.eval x)) = parts.map fun (q : Nat × Operand) => (q.1, ac.eval q.2) from rfl, hparts, hfill]
    simp [newRow]
  have hg := World.grownBy_alloc w (.cells vs.toArray e) none
  refine ⟨_, _, none, hrun, hg, fun _ h => (by cases h), Kp.of hg, fun m q v _ h4 h5 => ⟨cell_grown hg h4, frozen_grown hg h4 h5⟩, fun m hm => ?_, one_out ⟨⟨_, _, _, rfl⟩, fun _ h => by cases h⟩ hx fun w1 hw => ?_⟩
  · simp only [blk, Option.some.injEq] at hm
    subst hm
    exact ⟨by simp, .inr (Nat.le_refl _)⟩
  · refine ⟨_, _, rfl, Nat.le_refl _, fun i hi => ⟨_, _, rfl, [vs[i]'(by omega)], rfl, fun k u hk => ?_, ?_⟩⟩
    · cases k with
      | succ k => simp at hk
      | zero =>
        simp only [List.getElem?_cons_zero, Option.some.injEq] at hk
        subst hk
        have hbk := hw.2 w.heap.size (by simp) (fun h => by have := hX _ h; omega)
        rw [World.cell?_of_block hbk, World.cell?_alloc_new]
        simp
    · have hp : ps[i]? = some (ps[i]'(by omega)) := List.getElem?_eq_getElem (by omega)
      exact (hF i _ hp w1 _ (hv i _ _ hp (List.getElem?_eq_getElem (by omega)) w1 ((Off.grown hg).trans hw fun _ _ h => h))).2
end
end Go.Proofs.YtncaiomdcpppeaaGreat.Sym
