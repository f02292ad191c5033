/- Rows of bytes, in memory of the call's own. -/
import Derived.Test.YtjakllpnbeagjaaGreatDoorRats
namespace Go.Proofs.YtjakllpnbeagjaaGreatDoor
open Go.RowKit

/-- A byte. -/
def IsB (x : Value) : Prop := ∃ z : Int, x = .int .u8 z
/-- v holds the bytes xs, in memory of the call's own (blocks from B on), in whose block bytes alone lie. -/
def OwnB (w : World) (B : Nat) (v : Value) (xs : List Nat) : Prop :=
  w.ownsRow B 5 1 v xs.length (vals .u8 xs) ∧ ∀ g cur e p, v.ownBlock = some g → w.heap[g]? = some (.cells cur e p) → ∀ x, x ∈ cur.toList → IsB x
theorem OwnB.nil (w : World) (B : Nat) : OwnB w B (.slice none 0 0) [] := ⟨⟨rfl, .inl ⟨rfl, rfl⟩⟩, fun _ _ _ _ h => by simp [Value.ownBlock] at h⟩
theorem OwnB.lt {w : World} {B : Nat} {v : Value} {xs : List Nat} (h : OwnB w B v xs) (g : Nat) (hg : v.ownBlock = some g) : B ≤ g ∧ g < w.heap.size := by
  rcases h.1.2 with ⟨rfl, -⟩ | ⟨g', cap, cur, rfl, hb, hh, -⟩
  · simp [Value.ownBlock] at hg
  · simp only [Value.ownBlock, Option.some.injEq] at hg
    subst hg
    exact ⟨hb, (Array.getElem?_eq_some_iff.1 hh).1⟩
theorem OwnB.grown {w w' : World} {B : Nat} {v : Value} {xs : List Nat} {row : Option Nat} (h : OwnB w B v xs) (g : w.grownBy w' row) (hne : row = none ∨ v.ownBlock ≠ row) : OwnB w' B v xs := by
  have hb : ∀ g', v.ownBlock = some g' → w'.heap[g']? = w.heap[g']? := fun g' hg' => g.block g' (h.lt g' hg').2 (by rcases hne with rfl | hne <;> simp_all)
  refine ⟨⟨h.1.1, ?_⟩, fun g' cur e p hg' hh => h.2 g' cur e p hg' (by rw [← hb g' hg']; exact hh)⟩
  rcases h.1.2 with h2 | ⟨g', cap, cur, rfl, hB, hh, h3⟩
  · exact .inl h2
  · exact .inr ⟨g', cap, cur, rfl, hB, by rw [hb g' rfl]; exact hh, h3⟩
theorem OwnB.own {w : World} {B : Nat} {v : Value} {xs : List Nat} (h : OwnB w B v xs) : Own w 5 .u8 B v xs := Own.of_row h.1
theorem OwnB.slice {w : World} {B : Nat} {v : Value} {xs : List Nat} (h : OwnB w B v xs) : ∃ p cap, v = .slice p xs.length cap := h.own.slice
/-- From w to w' numbers stay, but bytes. -/
def Kq (w w' : World) : Prop := w.heap.size ≤ w'.heap.size ∧ ∀ (a : Addr) (k : IntKind) (n : Int), k ≠ .u8 → w.cell? a = some (.int k n) → w'.cell? a = some (.int k n)
theorem Kp.q {w w' : World} (h : Kp w w') : Kq w w' := ⟨h.1, fun a k n _ => h.2 a k n⟩
theorem Kq.trans {a b c : World} (h : Kq a b) (k : Kq b c) : Kq a c := ⟨Nat.le_trans h.1 k.1, fun x y z e f => k.2 x y z e (h.2 x y z e f)⟩
theorem OwnB.away {w : World} {B : Nat} {v : Value} {xs : List Nat} (h : OwnB w B v xs) {a : Addr} {x : Value} (hc : w.cell? a = some x) (hx : ¬ IsB x) : v.ownBlock ≠ some a.block := fun hv => by
  rcases h.1.2 with ⟨rfl, -⟩ | ⟨g', cap, cur, rfl, hB, hh, -⟩
  · simp [Value.ownBlock] at hv
  · simp only [Value.ownBlock, Option.some.injEq] at hv
    obtain ⟨b, off, spot⟩ := a
    simp only at hv
    subst hv
    have hs : spot = none := by
      cases spot with
      | none => rfl
      | some s => simp [World.cell?, hh] at hc
    subst hs
    simp [World.cell?, hh] at hc
    exact hx (h.2 g' cur _ _ rfl hh x (by rw [← Array.getElem?_toList] at hc; exact List.mem_of_getElem? hc))
theorem not_isB {k : IntKind} {n : Int} (h : k ≠ .u8) : ¬ IsB (.int k n) := by rintro ⟨z, e⟩; cases e; exact h rfl
/-- What is written into the row leaves every other number as it was. -/
theorem OwnB.kq {w w' : World} {B : Nat} {v : Value} {xs : List Nat} (h : OwnB w B v xs) (g : w.grownBy w' v.ownBlock) : Kq w w' := by
  refine ⟨g.size, fun a k n hk hc => ?_⟩
  have hl := World.block_lt_of_cell? _ _ hc
  have hv := h.away hc (not_isB hk)
  rw [World.cell?_of_block (g.block a.block hl (fun e => hv e.symm))]
  exact hc
theorem OwnB.st {W w w' : World} {B : Nat} {v : Value} {xs : List Nat} {cs : List (Nat × Nat × Value)} {fs : List (Nat × Nat)} (h : OwnB w B v xs) (S : St W cs fs w) (g : w.grownBy w' v.ownBlock) (hB : W.heap.size ≤ B)
    (hc : ∀ c, c ∈ cs → ¬ IsB c.2.2) (hf : ∀ f, f ∈ fs → ∃ x, (f.1, f.2, x) ∈ cs) : St W cs fs w' := by
  have hcell : ∀ c, c ∈ cs → w'.cell? ⟨c.1, c.2.1, none⟩ = some c.2.2 ∧ w'.heap[c.1]? = w.heap[c.1]? := fun c hm => by
    have h1 := (St.iff.1 S).1 c hm
    have hv := h.away h1 (hc c hm)
    have hb := g.block c.1 (World.block_lt_of_cell? _ _ h1) (fun e => hv e.symm)
    exact ⟨by rw [World.cell?_of_block (w := w) hb]; exact h1, hb⟩
  have hall : W.grownBy w' none := by
    rcases h.1.2 with ⟨rfl, -⟩ | ⟨g', cap, cur, rfl, hb, hh, -⟩
    · exact grown_trans S.all g
    · exact grown_new S.all g (Nat.le_trans hB hb)
  refine St.iff.2 ⟨fun c hm => (hcell c hm).1, StF.iff.2 ⟨fun f hm => ?_, hall⟩⟩
  obtain ⟨x, hx⟩ := hf f hm
  obtain ⟨h1, h2⟩ := hcell _ hx
  refine ⟨by rw [h1]; simp [cellOf, h1], ?_⟩
  have := S.free hm
  simpa [World.frozen?, h2] using this
theorem Sl.kq {w w' : World} {k : IntKind} {v : Value} {xs : List Nat} (h : Sl w k v xs) (hk : k ≠ .u8) (g : Kq w w') : Sl w' k v xs := by
  obtain ⟨p, cap, rfl, h1, h2, h3⟩ := h
  refine ⟨p, cap, rfl, h1, h2, ?_⟩
  rcases h3 with h3 | ⟨b, off, rfl, h4, h5⟩
  · exact .inl h3
  · exact .inr ⟨b, off, rfl, Nat.lt_of_lt_of_le h4 g.1, fun j hj => g.2 _ _ _ hk (h5 j hj)⟩
theorem Num.kq {w w' : World} {v : Value} {X k : Nat} (h : Num w v X k) (g : Kq w w') : Num w' v X k := by
  obtain ⟨xs, h1, h2⟩ := h
  exact ⟨xs, h1.kq (by decide) g, h2⟩
theorem IntV.kq {w w' : World} {v : Value} {z : Int} {k : Nat} (h : IntV w v z k) (g : Kq w w') : IntV w' v z k := by
  obtain ⟨b, s, X, h1, h2, h3⟩ := h
  exact ⟨b, s, X, h1, h2.kq g, h3⟩
theorem NorI.kq {w w' : World} {v : Value} {z : Int} (h : NorI w v z) (g : Kq w w') : NorI w' v z := by
  obtain ⟨p, cap, h1, h2⟩ := h
  exact ⟨p, cap, h1, h2.kq (by decide) g⟩
theorem NorV.kq {w w' : World} {v : Value} {z : Int} {k : Nat} (h : NorV w v z k) (g : Kq w w') : NorV w' v z k := ⟨h.1.kq g, h.2⟩
theorem DecI.kq {w w' : World} {v : Value} {z : Int} {k : Nat} (h : DecI w v z k) (g : Kq w w') : DecI w' v z k := by
  obtain ⟨p, cap, h1, h2, h3⟩ := h
  exact ⟨p, cap, h1, h2.kq (by decide) g, h3⟩
theorem Tryz.infoB : (Tryz.prog.info? 5).map (fun i => (i.zero, i.size, i.bytes)) = some (some (.int .u8 0), 1, 1) := by kernel_rfl
theorem zeroCells_b {z : Array Value} (hz : ∀ x, x ∈ z.toList → IsB x) (h0 : 0 < z.size) (n : Nat) : ∀ x, x ∈ (Builtin.zeroCells z n).toList → IsB x := by
  intro x hx
  simp only [Builtin.zeroCells, Array.toList_map, List.mem_map] at hx
  obtain ⟨i, -, rfl⟩ := hx
  have hlt := Nat.mod_lt i h0
  rw [getElem!_pos z _ hlt]
  exact hz _ (by simp)
theorem vals_b (xs : List Nat) : ∀ x, x ∈ vals .u8 xs → IsB x := fun x hx => by
  simp only [vals, List.mem_map] at hx
  obtain ⟨n, -, rfl⟩ := hx
  exact ⟨_, rfl⟩
set_option maxRecDepth 100000 in
theorem run_append_b {w : World} {B : Nat} {v : Value} {L : List Nat} (ty : TypeId) (h : OwnB w B v L) (y gx : Nat) (c0 : w.cell? ⟨gx, 0, none⟩ = some (.int .u8 (y : Int))) (hB : B ≤ w.heap.size) (hl : L.length ≤ 1000000) :
    ∃ v' w', (Builtin.append_ #[55, 55] ty #[v, .slice (some ⟨gx, 0, none⟩) 1 1]).run Tryz.prog w = .ok v' w' ∧ OwnB w' B v' (L ++ [y]) ∧ w.grownBy w' v.ownBlock := by
  obtain ⟨i0, hi, hz0, hz1, hz2⟩ := info_parts Tryz.infoB
  have hnews : ∀ (j : Nat) u, [Value.int .u8 (y : Int)][j]? = some u → w.cell? (Addr.add ⟨gx, 0, none⟩ j) = some u := fun j u hj => by
    match j, hj with
    | 0, hj => simp at hj; subst hj; rw [Addr.add_lit]; exact c0
    | j + 1, hj => simp at hj
  have hone : ∀ u, u ∈ [Value.int .u8 (y : Int)] → u.oneCell' = true := fun u hu => by
    simp at hu; subst hu; rfl
  have hnn : ∀ x, x ∈ [Value.int .u8 (y : Int)] → IsB x := fun x hx => by
    simp at hx; exact ⟨_, hx⟩
  have hzz : ∀ x, x ∈ (Value.int .u8 0).cells.toList → IsB x := fun x hx => by
    have : x = .int .u8 0 := by simpa [Value.cells] using hx
    exact ⟨_, this⟩
  have hv1 : vals .u8 [y] = [Value.int .u8 (y : Int)] := rfl
  obtain ⟨v', w', hr, ho, hg, -⟩ := run_append_own (P := Tryz.prog) w B 55 ty 5 i0 (.int .u8 0) 1 1 Tryz.underlying55 hi hz0 hz1 hz2 rfl (by omega) v L.length (vals .u8 L) h.1 ⟨gx, 0, none⟩ 1 1 [.int .u8 (y : Int)] rfl hnews hone (by simp only [maxLen]; omega) (by omega) hB
  refine ⟨v', w', hr, ⟨?_, ?_⟩, hg⟩
  · rw [vals_app, List.length_append]
    exact ho
  · have hL : ∀ x, x ∈ vals .u8 L → IsB x := vals_b L
    rcases h.1.2 with ⟨rfl, h2⟩ | ⟨g, cap, cur, rfl, hb, hh, h3, h4, h5, h6⟩
    · have hr2 := run_append_nil (P := Tryz.prog) w 55 ty 5 i0 (.int .u8 0) Tryz.underlying55 hi hz0 ⟨gx, 0, none⟩ 1 1 [.int .u8 (y : Int)] (by rw [hz1]; rfl) hnews (by omega) (by omega) (by rw [hz2]; omega)
      rw [hr] at hr2
      injection hr2 with e1 e2
      subst e1 e2
      intro g cur e q hgg hcur x hx
      simp only [Value.ownBlock, Option.some.injEq] at hgg
      subst hgg
      rw [show w.heap.size = w.drew.heap.size from rfl, heap_alloc_new] at hcur
      cases hcur
      simp only [Array.toList_append, List.mem_append] at hx
      rcases hx with hx | hx
      · exact hnn x hx
      · exact zeroCells_b hzz (by simp [Value.cells]) _ x hx
    · by_cases hroom : L.length + 1 ≤ cap
      · have hr2 := run_append_room (P := Tryz.prog) w 55 ty 5 i0 Tryz.underlying55 hi g L.length cap cur hh ⟨gx, 0, none⟩ 1 1 [.int .u8 (y : Int)] (by rw [hz1]; rfl) hnews hone hroom (by rw [hz1, h5]; simp; omega)
        rw [hr] at hr2
        injection hr2 with e1 e2
        subst e1 e2
        intro g' cur' e q hgg hcur x hx
        simp only [Value.ownBlock, Option.some.injEq] at hgg
        subst hgg
        rw [setRow_heap w g cur _ _ _ hh] at hcur
        cases hcur
        simp only [List.mem_append] at hx
        rcases hx with (hx | hx) | hx
        · exact h.2 g cur _ _ rfl hh x (List.mem_of_mem_take hx)
        · exact hnn x hx
        · exact h.2 g cur _ _ rfl hh x (List.mem_of_mem_drop hx)
      · have holds : ∀ (j : Nat) u, (vals .u8 L)[j]? = some u → w.cell? (Addr.add ⟨g, 0, none⟩ j) = some u := h.1.cells (g := g) rfl
        have hr2 := run_append_grow (P := Tryz.prog) w 55 ty 5 i0 (.int .u8 0) Tryz.underlying55 hi hz0 ⟨g, 0, none⟩ L.length cap (vals .u8 L) (by rw [hz1]; exact h.1.1) holds ⟨gx, 0, none⟩ 1 1 [.int .u8 (y : Int)] (by rw [hz1]; rfl) hnews (by omega) (by omega) (growslice_fits (by omega) (by rw [hz2]; omega))
        rw [hr] at hr2
        injection hr2 with e1 e2
        subst e1 e2
        intro g' cur' e q hgg hcur x hx
        simp only [Value.ownBlock, Option.some.injEq] at hgg
        subst hgg
        rw [show w.heap.size = w.drew.heap.size from rfl, heap_alloc_new] at hcur
        cases hcur
        simp only [Array.toList_append, List.mem_append] at hx
        rcases hx with (hx | hx) | hx
        · exact hL x hx
        · exact hnn x hx
        · exact zeroCells_b hzz (by simp [Value.cells]) _ x hx
section
variable {w : World} {ops : Array Oper} {rest : List Oper} {o : Oper} {a : Act} {Q : Exit → Act → World → Prop}
/-- .. as an arm of the walk. -/
theorem wp_append_b (hgd : o.guard = none) (s x : Operand) (ho : o.op = .call { callee := .builtin .append, args := #[s, x], argTypes := #[55, 55] })
    (B : Nat) (v : Value) (L : List Nat) (hs : a.eval s = v) (hown : OwnB w B v L) (y gx : Nat) (hx : a.eval x = .slice (some ⟨gx, 0, none⟩) 1 1)
    (c0 : w.cell? ⟨gx, 0, none⟩ = some (.int .u8 (y : Int))) (hB : B ≤ w.heap.size) (hl : L.length ≤ 1000000)
    (hK : ∀ v' w', OwnB w' B v' (L ++ [y]) → w.grownBy w' v.ownBlock → wpList Tryz.prog ops Q rest (a.put o.dst v') w') : wpList Tryz.prog ops Q (o :: rest) a w := by
  refine wpList_plain hgd fun K hK' => ?_
  obtain ⟨v', w', hr, h2, h3⟩ := run_append_b o.type hown y gx c0 hB hl
  unfold Oper.wp execOp
  simp only [ho, resolve, invoke, builtin, Sem.run_bind, Sem.run_pure, Result.andThen_ok, List.map_toArray, List.map_cons, List.map_nil, hs, hx, hr]
  exact hK' _ _ (hK v' w' h2 h3)
end
end Go.Proofs.YtjakllpnbeagjaaGreatDoor
