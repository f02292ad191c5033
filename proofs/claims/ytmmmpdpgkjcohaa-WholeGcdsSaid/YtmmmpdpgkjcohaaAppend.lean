/- append of several numbers, and of zeros, to a slice in memory of the call's own. -/
import Derived.Test.YtmmmpdpgkjcohaaBase
import Derived.Lib.AppendZerosOnto
namespace Go.Proofs.Ytmmmpdpgkjcohaa
open Go.RowKit

section
variable {P : Program} {w : World}

theorem run_append_zero (t ty e : TypeId) (i : TypeInfo) (ht : P.underlying t = some (.slice e)) (hi : P.info? e = some i) (base p : Option Addr) (n cap c : Nat) (h : n ≤ cap) :
    (Builtin.append_ #[t, t] ty #[.slice base n cap, .slice p 0 c]).run P w = .ok (.slice base n cap) w := by
  cases base <;> cases p <;> simp [Builtin.append_, run_underlying ht, sizeOf, typeInfo, hi, Builtin.lenOf, h, Builtin.firstCells, loadCells, loadCellsFrom, storeCells]

theorem size_zeroCells1 {z : Value} (hz : z.cells = #[z]) (k : Nat) : (Builtin.zeroCells z.cells k).size = k := by simp [Builtin.zeroCells, hz]
theorem get_zeroCells1 {z : Value} (hz : z.cells = #[z]) {k j : Nat} (h : j < k) : (Builtin.zeroCells z.cells k)[j]? = some z := by simp [Builtin.zeroCells, hz, h, Nat.mod_one]
theorem zeroCells_list {z : Value} (hz : z.cells = #[z]) (k : Nat) : (Builtin.zeroCells z.cells k).toList = List.replicate k z := by
  apply List.ext_getElem?
  intro j
  rw [Array.getElem?_toList]
  by_cases h : j < k
  · rw [get_zeroCells1 hz h, List.getElem?_replicate, if_pos h]
  · rw [Array.getElem?_eq_none (by rw [size_zeroCells1 hz]; omega), List.getElem?_eq_none (by simp; omega)]

theorem vals_zeros (k : IntKind) (n : Nat) : vals k (List.replicate n 0) = List.replicate n (.int k 0) := by simp [vals]

/-- append(s, make([]T, k)...): the model is handed the number. -/
theorem run_append_zeros (t tn ty e : TypeId) (i : TypeInfo) (z : Value) (kn : IntKind) (ht : P.underlying t = some (.slice e)) (htn : P.underlying tn = some (.int kn)) (hi : P.info? e = some i) (hz : i.zero = some z) (h1 : i.size = 1) (hb : i.bytes ≤ 8)
    (hzc : z.cells = #[z]) (ik : IntKind) (hzi : z = .int ik 0) (B : Nat) (v : Value) (xs : List Nat) (k : Nat) (hown : Own w e ik B v xs) (hB : B ≤ w.heap.size) (hl : xs.length + k ≤ 1099511627776) :
    ∃ v' w', (Builtin.append_ #[t, tn] ty #[v, .int .i64 k]).run P w = .ok v' w' ∧ Own w' e ik B v' (xs ++ List.replicate k 0) ∧ w.grownBy w' v.ownBlock := by
  subst hzi
  have hw : IntKind.i64.wrap (k : Int) = k := by rw [IntKind.wrap_i64]; omega
  have hw0 : IntKind.i64.wrap 0 = 0 := by rw [IntKind.wrap_i64]; omega
  have hneg : ¬ ((k : Int) < 0) := by omega
  have hbk : k * i.bytes ≤ k * 8 := Nat.mul_le_mul_left _ hb
  have h48i : ¬ (281474976710656 < (k : Int) * (i.bytes : Int)) := by rw [← Int.natCast_mul]; omega
  have hbn : (xs.length + k) * i.bytes ≤ (xs.length + k) * 8 := Nat.mul_le_mul_left _ hb
  have grow : ∀ (base : Option Addr) (cap : Nat), v = .slice base xs.length cap → cap < xs.length + k → cap ≤ 9223372036854775807 → 0 < k → (Builtin.firstCells i.size xs.length (.slice base xs.length cap)).run P w.drew = .ok (vals ik xs).toArray w.drew →
      ∃ v' w', (Builtin.append_ #[t, tn] ty #[v, .int .i64 k]).run P w = .ok v' w' ∧ Own w' e ik B v' (xs ++ List.replicate k 0) ∧ w.grownBy w' v.ownBlock := by
    intro base cap hv hg hcap hk hold
    subst hv
    have hr := Lib.run_append_grow_zeros (P := P) w t tn ty e i (.int ik 0) .i64 kn ht htn hi hz base xs.length cap (vals ik xs) hold k hk (by omega) hg (by omega) (by omega) (growslice_fits (by omega) (by omega))
    have hge := grownCap_ge w (xs.length + k) cap e
    have hcm := grownCap_le_maxLen w (xs.length + k) cap e (by simp only [maxLen]; omega)
    refine ⟨_, _, hr, Own.of_row (n := xs.length + k) ⟨by rw [vals_len]; simp, .inr ⟨w.heap.size, _, _, rfl, hB, heap_alloc_new w.drew _, hge, hcm, ?_, ?_⟩⟩, ⟨rfl, rfl, rfl, by simp, fun q hq _ => Below.heap_alloc w.drew _ q hq⟩⟩
    · simp [size_zeroCells1 hzc, vals_len]; omega
    · rw [Nat.mul_one, Array.toList_append, Array.toList_append, zeroCells_list hzc, zeroCells_list hzc, vals_app, vals_zeros]
      exact List.take_left' (by simp [vals_len])
  have hrow := hown.row
  rcases hown with ⟨rfl, rfl⟩ | ⟨g, cap, c, rfl, hBg, hRow, hle, hcap, hx⟩
  · by_cases hk : k = 0
    · subst hk
      refine ⟨.slice none 0 0, w, ?_, .inl ⟨rfl, rfl⟩, grown_refl _ _⟩
      simp [Builtin.append_, run_underlying ht, run_underlying htn, sizeOf, typeInfo, hi, asInt, asIntOf, hw0]
    · exact grow none 0 rfl (by simp; omega) (by omega) (by omega) (by simp [Builtin.firstCells, vals])
  · by_cases hroom : xs.length + k ≤ cap
    · by_cases hk : k = 0
      · subst hk
        refine ⟨.slice (some ⟨g, 0, none⟩) xs.length cap, w, ?_, ?_, grown_refl _ _⟩
        · simp [Builtin.append_, run_underlying ht, run_underlying htn, sizeOf, typeInfo, hi, asInt, asIntOf, hw0, hle, storeCells]
        · rw [List.replicate_zero, List.append_nil]
          exact .inr ⟨g, cap, c, rfl, hBg, hRow, hle, hcap, hx⟩
      · obtain ⟨_, h | ⟨g', cap', cur, e', _, c1, _, c4, c5, c6⟩⟩ := hrow
        · cases h.1
        simp only [Value.slice.injEq, Option.some.injEq, Addr.mk.injEq, and_true, true_and] at e'
        obtain ⟨rfl, rfl⟩ := e'
        have c5' : cur.size = cap := by omega
        have hst := run_storeCells_at P g xs.length e (Builtin.zeroCells (Value.int ik 0).cells k).toList 0 cur w c1 (by rw [zeroCells_list hzc, List.length_replicate, c5']; omega) (by rw [zeroCells_list hzc]; intro u hu; rw [(List.mem_replicate.1 hu).2]; rfl)
        simp only [Nat.add_zero] at hst
        refine ⟨.slice (some ⟨g, 0, none⟩) (xs.length + k) cap, w.setRow g (cur.toList.take xs.length ++ (Builtin.zeroCells (Value.int ik 0).cells k).toList ++ cur.toList.drop (xs.length + (Builtin.zeroCells (Value.int ik 0).cells k).toList.length)).toArray, ?_, ?_, ?_⟩
        · simp only [Builtin.append_]
          simp [run_underlying ht, run_underlying htn, sizeOf, typeInfo, zeroValue, hi, hz, asInt, asIntOf, hw, hroom, hneg, h48i, h1, hk, Addr.add_lit]
          simp at hst
          rw [hst]
          rfl
        · refine Own.of_row (n := xs.length + k) ⟨by rw [vals_len]; simp, .inr ⟨g, cap, _, rfl, hBg, setRow_heap w g cur _ e _ c1, hroom, c4, ?_, ?_⟩⟩
          · simp [zeroCells_list hzc]; omega
          · rw [Nat.mul_one] at c6
            rw [Nat.mul_one, zeroCells_list hzc, c6, vals_app, vals_zeros]
            exact List.take_left' (by simp [vals_len])
        · exact ⟨rfl, rfl, rfl, by simp [World.setRow], fun q _ hq => setRow_other w g q _ (fun x => hq (by simp [Value.ownBlock, x]))⟩
    · refine grow (some ⟨g, 0, none⟩) cap rfl (by omega) hcap (by omega) ?_
      have hf := run_firstCells_some (P := P) w.drew i.size xs.length ⟨g, 0, none⟩ xs.length cap (vals ik xs) (by rw [vals_len, h1]; omega) (fun j u hj => by
        have hjl : j < xs.length := by
          have := (List.getElem?_eq_some_iff.1 hj).1
          rwa [vals_len] at this
        rw [vals_get ik xs hjl] at hj
        rw [Addr.add_lit, Nat.zero_add, ← hj, ← hx j hjl]
        exact hRow.cell (by omega))
      exact hf

variable {ops : Array Oper} {rest : List Oper} {o : Oper} {a : Act} {Q : Exit → Act → World → Prop}
/-- .. as an arm of the walk. -/
theorem wp_appendZ (hgd : o.guard = none) (s x : Operand) (t tn : TypeId) (ho : o.op = .call { callee := .builtin .append, args := #[s, x], argTypes := #[t, tn] })
    (e : TypeId) (i : TypeInfo) (z : Value) (kn : IntKind) (ht : P.underlying t = some (.slice e)) (htn : P.underlying tn = some (.int kn)) (hi : P.info? e = some i) (hz : i.zero = some z) (h1 : i.size = 1) (hb : i.bytes ≤ 8)
    (hzc : z.cells = #[z]) (ik : IntKind) (hzi : z = .int ik 0) (B : Nat) (v : Value) (xs : List Nat) (k : Nat) (hs : a.eval s = v) (hx : a.eval x = .int .i64 k) (hown : Own w e ik B v xs) (hB : B ≤ w.heap.size) (hl : xs.length + k ≤ 1099511627776)
    (hK : ∀ v' w', Own w' e ik B v' (xs ++ List.replicate k 0) → w.grownBy w' v.ownBlock → wpList P ops Q rest (a.put o.dst v') w') : wpList P ops Q (o :: rest) a w := by
  refine wpList_plain hgd fun K hK' => ?_
  obtain ⟨v', w', hr, h2, h3⟩ := run_append_zeros (P := P) t tn o.type e i z kn ht htn hi hz h1 hb hzc ik hzi B v xs k hown hB hl
  unfold Oper.wp
  simp [execOp, ho, resolve, invoke, builtin, hs, hx, hr, Result.andThen]
  exact hK' _ _ (hK v' w' h2 h3)

/-- append(s, x...) of numbers, x any slice. -/
theorem wp_appendN (hgd : o.guard = none) (s x : Operand) (t : TypeId) (ho : o.op = .call { callee := .builtin .append, args := #[s, x], argTypes := #[t, t] })
    (e : TypeId) (i : TypeInfo) (z : Value) (k : IntKind) (ht : P.underlying t = some (.slice e)) (hi : P.info? e = some i) (hz : i.zero = some z) (hsize : i.size = 1) (hby : i.bytes ≤ 8) (hzs : z.cells.size = 1)
    (B : Nat) (v : Value) (xs : List Nat) (hs : a.eval s = v) (hown : Own w e k B v xs) (p : Option Addr) (n c : Nat) (ys : List Nat) (hx : a.eval x = .slice p n c) (hsl : Sl w k (.slice p n c) ys)
    (hlen : xs.length + ys.length ≤ 17592186044415) (hB : B ≤ w.heap.size)
    (hK : ∀ v' w', Own w' e k B v' (xs ++ ys) → w.grownBy w' v.ownBlock → wpList P ops Q rest (a.put o.dst v') w') : wpList P ops Q (o :: rest) a w := by
  obtain ⟨p', c', e', h1, h2, h3⟩ := hsl
  simp only [Value.slice.injEq] at e'
  obtain ⟨rfl, rfl, rfl⟩ := e'
  rcases h3 with rfl | ⟨b, off, rfl, h4, h5⟩
  · refine wpList_plain hgd fun K hK' => ?_
    obtain ⟨base, m, cap, rfl, hm⟩ : ∃ base m cap, v = .slice base m cap ∧ m ≤ cap := by
      rcases hown with ⟨rfl, rfl⟩ | ⟨g, cap, c, rfl, _, _, hle, _⟩
      · exact ⟨_, _, _, rfl, Nat.le_refl _⟩
      · exact ⟨_, _, _, rfl, hle⟩
    have hr := run_append_zero (P := P) (w := w) t o.type e i ht hi base p m cap c hm
    unfold Oper.wp
    simp [execOp, ho, resolve, invoke, builtin, hs, hx, hr, Result.andThen]
    exact hK' _ _ (hK _ w (by simpa using hown) (grown_refl _ _))
  · refine wpList_append_own w hgd s x t ho B e i z 1 i.bytes ht hi hz hsize rfl hzs (by omega) v xs.length (vals k xs) hs hown.row ⟨b, off, none⟩ ys.length c (vals k ys) hx (by rw [vals_len]; omega) ?_ (vals_one _ _) (by simp only [maxLen]; omega) ?_ hB ?_
    · intro j u hj
      have hjl : j < ys.length := by
        have := (List.getElem?_eq_some_iff.1 hj).1
        rwa [vals_len] at this
      rw [vals_get k ys hjl] at hj
      rw [Addr.add_lit, ← hj]
      exact h5 j hjl
    · have h : (xs.length + ys.length) * i.bytes ≤ (xs.length + ys.length) * 8 := Nat.mul_le_mul_left _ hby
      omega
    · intro v' w' g1 g2 _
      refine hK v' w' ?_ g2
      rw [← vals_app] at g1
      exact Own.of_row g1
end

end Go.Proofs.Ytmmmpdpgkjcohaa
