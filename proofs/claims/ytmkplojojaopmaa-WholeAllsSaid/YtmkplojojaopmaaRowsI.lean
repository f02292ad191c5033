/- Rows of whole numbers: ones that came in, and ones of the call's own. -/
import Derived.Test.YtmkplojojaopmaaGcd
import Derived.Deep.SlicePairs
namespace Go.Proofs.Ytmkplojojaopmaa
open Go.ChangeShapes Go.WideShapes Go.ChangeAt Go.RowKit

/-- A row of whole numbers that came in. -/
def RowIn (W : World) (v : Value) (n : Nat) (q : Nat → Bool × Value × List Nat) : Prop :=
  ∃ (p : Option Addr) (cap : Nat), v = .slice p n cap ∧ n ≤ cap ∧ cap ≤ 9223372036854775807 ∧
    (n = 0 ∨ ∃ b off, p = some ⟨b, off, none⟩ ∧ ∀ j, j < n → W.cell? ⟨b, off + j * 2, none⟩ = some (.bool (q j).1) ∧ W.cell? ⟨b, off + j * 2 + 1, none⟩ = some (q j).2.1 ∧ Sl W .u32 (q j).2.1 (q j).2.2 ∧ All 4294967296 (q j).2.2)
section
variable {H : Type} {enc : TypeId × Value → H}
set_option maxRecDepth 100000 in
theorem ints_of_trod {W : World} {base base' : Nat} {held : Bool} {v : Value} {d : DataW H} {ps : List MemPlace}
    (h : DataW.Trod enc Try.prog W base (fun _ => true) held 22 v d ps) (hv : Value.okWide Try.prog W .any base' 22 v) : ∃ (n : Nat) (q : Nat → Bool × Value × List Nat), RowIn W v n q := by
  obtain ⟨a0, len, cap, rfl⟩ := okWide_slice Try.underlying22 hv
  obtain ⟨fuel, hf⟩ := h
  rcases Deep.open_slice_pairs Try.underlying22 Try.underlying30 (by kernel_rfl) rfl rfl (by kernel_rfl) (by kernel_rfl) hf with ⟨hcs, _⟩ | ⟨a, len', cap', m, n, V0, V1, D0, D1, P0, P1, hcs, _, hl, hm, hmm, _, hx⟩
  · simp [Value.cells] at hcs
    obtain ⟨rfl, rfl, rfl⟩ := hcs
    exact ⟨0, fun _ => (false, undef, []), none, 0, rfl, Nat.le_refl _, by omega, .inl rfl⟩
  · simp [Value.cells] at hcs
    obtain ⟨rfl, rfl, rfl⟩ := hcs
    simp only [if_true] at hmm
    have each : ∀ i, i < len → ∃ q : Bool × Value × List Nat, W.cell? (a.add (i * 2)) = some (.bool q.1) ∧ W.cell? (a.add (i * 2 + 1)) = some q.2.1 ∧ Sl W .u32 q.2.1 q.2.2 ∧ All 4294967296 q.2.2 := fun i hi => by
      obtain ⟨c0, c1, h0, h1⟩ := hx i (by omega)
      obtain ⟨b, e0, -⟩ := DataW.trod_bool Try.underlying4 h0
      have e0' : V0 i = .bool b := by simpa using e0
      obtain ⟨xs, h2, h3⟩ := sl_of_row (W := W) Try.underlying28 Try.underlying42 (by kernel_rfl) h1
      exact ⟨(b, V1 i, xs), by rw [c0, e0'], c1, h2, h3⟩
    obtain ⟨q, hq⟩ := Deep.choose_lt each
    refine ⟨len, q, some a, cap, rfl, hl, by simpa [maxLen] using hm, ?_⟩
    by_cases h0 : len = 0
    · exact .inl h0
    · obtain ⟨b, off, spot⟩ := a
      have hspot : spot = none := by simpa [Addr.add] using World.cell?_spot (hq 0 (by omega)).1
      subst hspot
      refine .inr ⟨b, off, rfl, fun j hj => ?_⟩
      have := hq j hj
      simp only [Addr.add_lit] at this
      exact this
end

/-- A row of pairs as it lies in memory. -/
def flat : List (Bool × Value) → List Value
  | [] => []
  | q :: L => .bool q.1 :: q.2 :: flat L
theorem flat_len : ∀ L : List (Bool × Value), (flat L).length = L.length * 2
  | [] => rfl
  | _ :: L => by simp [flat, flat_len L]; omega
theorem flat_app : ∀ L M : List (Bool × Value), flat (L ++ M) = flat L ++ flat M
  | [], _ => rfl
  | _ :: L, M => by simp [flat, flat_app L M]
theorem flat_get : ∀ (L : List (Bool × Value)) (j : Nat) (q : Bool × Value), L[j]? = some q → (flat L)[j * 2]? = some (.bool q.1) ∧ (flat L)[j * 2 + 1]? = some q.2
  | [], _, _, h => by simp at h
  | _ :: L, 0, q, h => by simp at h; subst h; simp [flat]
  | _ :: L, j + 1, q, h => by
    have := flat_get L j q (by simpa using h)
    rw [show (j + 1) * 2 = j * 2 + 1 + 1 by omega]
    simpa [flat] using this
/-- No number. -/
def NoInt (x : Value) : Prop := ∀ k n, x ≠ .int k n
theorem flat_no {L : List (Bool × Value)} (h : ∀ q, q ∈ L → NoInt q.2) : ∀ x, x ∈ flat L → NoInt x := by
  induction L with
  | nil => intro x hx; simp [flat] at hx
  | cons q L ih =>
    intro x hx
    simp only [flat, List.mem_cons] at hx
    rcases hx with rfl | rfl | hx
    · intro k n e; cases e
    · exact h q (by simp)
    · exact ih (fun q' hq' => h q' (by simp [hq'])) x hx
/-- v is the row of pairs L, in memory of the call's own (blocks from B on), in whose block no number lies. -/
def OwnZ (w : World) (B : Nat) (v : Value) (L : List (Bool × Value)) : Prop :=
  w.ownsRow B 30 2 v L.length (flat L) ∧ ∀ g cur e p, v.ownBlock = some g → w.heap[g]? = some (.cells cur e p) → ∀ x, x ∈ cur.toList → NoInt x
theorem OwnZ.nil (w : World) (B : Nat) : OwnZ w B (.slice none 0 0) [] := ⟨⟨rfl, .inl ⟨rfl, rfl⟩⟩, fun _ _ _ _ h => by simp [Value.ownBlock] at h⟩
theorem OwnZ.lt {w : World} {B : Nat} {v : Value} {L : List (Bool × Value)} (h : OwnZ w B v L) (g : Nat) (hg : v.ownBlock = some g) : B ≤ g ∧ g < w.heap.size := by
  rcases h.1.2 with ⟨rfl, -⟩ | ⟨g', cap, cur, rfl, hb, hh, -⟩
  · simp [Value.ownBlock] at hg
  · simp only [Value.ownBlock, Option.some.injEq] at hg
    subst hg
    exact ⟨hb, (Array.getElem?_eq_some_iff.1 hh).1⟩
theorem OwnZ.grown {w w' : World} {B : Nat} {v : Value} {L : List (Bool × Value)} {row : Option Nat} (h : OwnZ w B v L) (g : w.grownBy w' row) (hne : row = none ∨ v.ownBlock ≠ row) : OwnZ w' B v L := by
  have hb : ∀ g', v.ownBlock = some g' → w'.heap[g']? = w.heap[g']? := fun g' hg' => g.block g' (h.lt g' hg').2 (by rcases hne with rfl | hne <;> simp_all)
  refine ⟨⟨h.1.1, ?_⟩, fun g' cur e p hg' hh => h.2 g' cur e p hg' (by rw [← hb g' hg']; exact hh)⟩
  rcases h.1.2 with h2 | ⟨g', cap, cur, rfl, hB, hh, h3⟩
  · exact .inl h2
  · exact .inr ⟨g', cap, cur, rfl, hB, by rw [hb g' rfl]; exact hh, h3⟩
theorem OwnZ.rowZ {w : World} {B k : Nat} {v : Value} {L : List (Bool × Value)} {zs : Nat → Int} (h : OwnZ w B v L) (hn : ∀ j q, L[j]? = some q → ∃ X, Num w q.2 X k ∧ zs j = sg q.1 X) : RowZ w v L.length zs k := by
  rcases h.1.2 with ⟨rfl, h2⟩ | ⟨g, cap, cur, rfl, hb, hh, h3, h4, h5, h6⟩
  · rw [h2]; exact ⟨none, 0, rfl, Nat.le_refl _, by omega, .inl rfl⟩
  · refine ⟨_, cap, rfl, h3, by simpa [maxLen] using h4, .inr ⟨g, 0, rfl, fun j hj => ?_⟩⟩
    obtain ⟨q, hq⟩ : ∃ q, L[j]? = some q := ⟨L[j], List.getElem?_eq_getElem hj⟩
    obtain ⟨X, hX, hz⟩ := hn j q hq
    obtain ⟨f0, f1⟩ := flat_get L j q hq
    have cell : ∀ (i : Nat) (x : Value), (flat L)[i]? = some x → w.cell? ⟨g, 0 + i, none⟩ = some x := fun i x hx => by
      rw [← h6, List.getElem?_take] at hx
      split at hx
      · simp [World.cell?, hh, Nat.zero_add]
        rw [← Array.getElem?_toList]
        exact hx
      · cases hx
    exact ⟨q.1, q.2, X, cell _ _ f0, by rw [Nat.add_assoc]; exact cell _ _ f1, hX, hz⟩
/-- What the append wrote into leaves every number as it was. -/
theorem OwnZ.kp {w w' : World} {B : Nat} {v : Value} {L : List (Bool × Value)} (h : OwnZ w B v L) (g : w.grownBy w' v.ownBlock) : Kp w w' := by
  refine ⟨g.size, fun a k n hc => ?_⟩
  have hl := World.block_lt_of_cell? _ _ hc
  by_cases hv : v.ownBlock = some a.block
  · rcases h.1.2 with ⟨rfl, -⟩ | ⟨g', cap, cur, rfl, hB, hh, -⟩
    · simp [Value.ownBlock] at hv
    · simp only [Value.ownBlock, Option.some.injEq] at hv
      obtain ⟨b, off, spot⟩ := a
      have hs : spot = none := World.cell?_spot hc
      subst hs
      simp only at hv
      subst hv
      simp [World.cell?, hh] at hc
      have := h.2 g' cur _ _ rfl hh (.int k n) (by
        rw [← Array.getElem?_toList] at hc
        exact List.mem_of_getElem? hc) k n
      exact absurd rfl this
  · rw [World.cell?_of_block (g.block a.block hl (fun e => hv e.symm))]
    exact hc
theorem Try.infoA : (Try.prog.info? 30).map (fun i => (i.zero, i.size, i.bytes)) = some (some (.agg #[.bool false, .slice none 0 0]), 2, 32) := by kernel_rfl

theorem zeroCells_no {z : Array Value} (hz : ∀ x, x ∈ z.toList → NoInt x) (h0 : 0 < z.size) (n : Nat) : ∀ x, x ∈ (Builtin.zeroCells z n).toList → NoInt x := by
  intro x hx
  simp only [Builtin.zeroCells, Array.toList_map, List.mem_map] at hx
  obtain ⟨i, -, rfl⟩ := hx
  have hlt := Nat.mod_lt i h0
  rw [getElem!_pos z _ hlt]
  exact hz _ (by simp)
set_option maxRecDepth 100000 in
theorem run_append_z {w : World} {B : Nat} {v : Value} {L : List (Bool × Value)} (ty : TypeId) (h : OwnZ w B v L) (b : Bool) (p : Option Addr) (n c gx : Nat) (c0 : w.cell? ⟨gx, 0, none⟩ = some (.bool b)) (c1 : w.cell? ⟨gx, 1, none⟩ = some (.slice p n c)) (hB : B ≤ w.heap.size) (hl : L.length ≤ 1000000) :
    ∃ v' w', (Builtin.append_ #[22, 22] ty #[v, .slice (some ⟨gx, 0, none⟩) 1 1]).run Try.prog w = .ok v' w' ∧ OwnZ w' B v' (L ++ [(b, .slice p n c)]) ∧ w.grownBy w' v.ownBlock := by
  obtain ⟨i0, hi, hz0, hz1, hz2⟩ := info_parts Try.infoA
  have hnews : ∀ (j : Nat) u, [Value.bool b, Value.slice p n c][j]? = some u → w.cell? (Addr.add ⟨gx, 0, none⟩ j) = some u := fun j u hj => by
    match j, hj with
    | 0, hj => simp at hj; subst hj; rw [Addr.add_lit]; exact c0
    | 1, hj => simp at hj; subst hj; rw [Addr.add_lit]; exact c1
    | j + 2, hj => simp at hj
  have hone : ∀ u, u ∈ [Value.bool b, Value.slice p n c] → u.oneCell' = true := fun u hu => by
    simp at hu; rcases hu with rfl | rfl <;> rfl
  have hnn : ∀ x, x ∈ [Value.bool b, Value.slice p n c] → NoInt x := fun x hx => by
    simp at hx; rcases hx with rfl | rfl <;> (intro k n e; cases e)
  have hzz : ∀ x, x ∈ (Value.agg #[.bool false, .slice none 0 0]).cells.toList → NoInt x := fun x hx => by
    have : x = .bool false ∨ x = .slice none 0 0 := by simpa [Value.cells] using hx
    rcases this with rfl | rfl <;> (intro k n e; cases e)
  obtain ⟨v', w', hr, ho, hg, -⟩ := run_append_own (P := Try.prog) w B 22 ty 30 i0 (.agg #[.bool false, .slice none 0 0]) 2 32 Try.underlying22 hi hz0 hz1 hz2 rfl (by omega) v L.length (flat L) h.1 ⟨gx, 0, none⟩ 1 1 [.bool b, .slice p n c] rfl hnews hone (by simp only [maxLen]; omega) (by omega) hB
  refine ⟨v', w', hr, ⟨?_, ?_⟩, hg⟩
  · rw [flat_app, List.length_append]
    exact ho
  · have hL : ∀ x, x ∈ flat L → NoInt x := fun x hx => by
      rcases h.1.2 with ⟨-, h2⟩ | ⟨g, cap, cur, hv, -, hh, -, -, -, h6⟩
      · rw [List.eq_nil_of_length_eq_zero h2] at hx; simp [flat] at hx
      · rw [← h6] at hx
        exact h.2 g cur _ _ (by rw [hv]; rfl) hh x (List.mem_of_mem_take hx)
    rcases h.1.2 with ⟨rfl, h2⟩ | ⟨g, cap, cur, rfl, hb, hh, h3, h4, h5, h6⟩
    · have hr2 := run_append_nil (P := Try.prog) w 22 ty 30 i0 (.agg #[.bool false, .slice none 0 0]) Try.underlying22 hi hz0 ⟨gx, 0, none⟩ 1 1 [.bool b, .slice p n c] (by rw [hz1]; rfl) hnews (by omega) (by omega) (by rw [hz2]; omega)
      rw [hr] at hr2
      injection hr2 with e1 e2
      subst e1 e2
      intro g cur e q hgg hcur x hx
      simp only [Value.ownBlock, Option.some.injEq] at hgg
      subst hgg
      rw [show w.heap.size = w.drew.heap.size from rfl, heap_alloc_new] at hcur
      cases hcur
      simp only [Array.toList_append, List.mem_append] at hx
      rcases hx with hx | hx
      · exact hnn x hx
      · exact zeroCells_no hzz (by simp [Value.cells]) _ x hx
    · by_cases hroom : L.length + 1 ≤ cap
      · have hr2 := run_append_room (P := Try.prog) w 22 ty 30 i0 Try.underlying22 hi g L.length cap cur hh ⟨gx, 0, none⟩ 1 1 [.bool b, .slice p n c] (by rw [hz1]; rfl) hnews hone hroom (by rw [hz1, h5]; simp; omega)
        rw [hr] at hr2
        injection hr2 with e1 e2
        subst e1 e2
        intro g' cur' e q hgg hcur x hx
        simp only [Value.ownBlock, Option.some.injEq] at hgg
        subst hgg
        rw [setRow_heap w g cur _ _ _ hh] at hcur
        cases hcur
        simp only [List.mem_append] at hx
        rcases hx with (hx | hx) | hx
        · exact h.2 g cur _ _ rfl hh x (List.mem_of_mem_take hx)
        · exact hnn x hx
        · exact h.2 g cur _ _ rfl hh x (List.mem_of_mem_drop hx)
      · have holds : ∀ (j : Nat) u, (flat L)[j]? = some u → w.cell? (Addr.add ⟨g, 0, none⟩ j) = some u := h.1.cells (g := g) rfl
        have hr2 := run_append_grow (P := Try.prog) w 22 ty 30 i0 (.agg #[.bool false, .slice none 0 0]) Try.underlying22 hi hz0 ⟨g, 0, none⟩ L.length cap (flat L) (by rw [hz1]; exact h.1.1) holds ⟨gx, 0, none⟩ 1 1 [.bool b, .slice p n c] (by rw [hz1]; rfl) hnews (by omega) (by omega) (growslice_fits (by omega) (by rw [hz2]; omega))
        rw [hr] at hr2
        injection hr2 with e1 e2
        subst e1 e2
        intro g' cur' e q hgg hcur x hx
        simp only [Value.ownBlock, Option.some.injEq] at hgg
        subst hgg
        rw [show w.heap.size = w.drew.heap.size from rfl, heap_alloc_new] at hcur
        cases hcur
        simp only [Array.toList_append, List.mem_append] at hx
        rcases hx with (hx | hx) | hx
        · exact hL x hx
        · exact hnn x hx
        · exact zeroCells_no hzz (by simp [Value.cells]) _ x hx
section
variable {w : World} {ops : Array Oper} {rest : List Oper} {o : Oper} {a : Act} {Q : Exit → Act → World → Prop}
/-- .. as an arm of the walk. -/
theorem wp_append_z (hgd : o.guard = none) (s x : Operand) (ho : o.op = .call { callee := .builtin .append, args := #[s, x], argTypes := #[22, 22] })
    (B : Nat) (v : Value) (L : List (Bool × Value)) (hs : a.eval s = v) (hown : OwnZ w B v L) (b : Bool) (p : Option Addr) (n c gx : Nat) (hx : a.eval x = .slice (some ⟨gx, 0, none⟩) 1 1)
    (c0 : w.cell? ⟨gx, 0, none⟩ = some (.bool b)) (c1 : w.cell? ⟨gx, 1, none⟩ = some (.slice p n c)) (hB : B ≤ w.heap.size) (hl : L.length ≤ 1000000)
    (hK : ∀ v' w', OwnZ w' B v' (L ++ [(b, .slice p n c)]) → w.grownBy w' v.ownBlock → wpList Try.prog ops Q rest (a.put o.dst v') w') : wpList Try.prog ops Q (o :: rest) a w := by
  refine wpList_plain hgd fun K hK' => ?_
  obtain ⟨v', w', hr, h2, h3⟩ := run_append_z o.type hown b p n c gx c0 c1 hB hl
  unfold Oper.wp execOp
  simp only [ho, resolve, invoke, builtin, Sem.run_bind, Sem.run_pure, Result.andThen_ok, List.map_toArray, List.map_cons, List.map_nil, hs, hx, hr]
  exact hK' _ _ (hK v' w' h2 h3)
end

end Go.Proofs.Ytmkplojojaopmaa
