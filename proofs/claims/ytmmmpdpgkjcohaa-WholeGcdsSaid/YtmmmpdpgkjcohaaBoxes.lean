/- Boxes: struct values of two cells in blocks of their own; how they outlive what is done beside them. -/
import Derived.Test.YtmmmpdpgkjcohaaRefK
import Derived.Deep.RegionHeld3
namespace Go.Proofs.Ytmmmpdpgkjcohaa
open Go.RowKit

theorem cell_lt {w : World} {a : Addr} {x : Value} (h : w.cell? a = some x) : a.block < w.heap.size := by
  rcases Nat.lt_or_ge a.block w.heap.size with h1 | h1
  · exact h1
  · simp [World.cell?, Array.getElem?_eq_none h1] at h
theorem cell_grown {w w' : World} {a : Addr} {x : Value} (g : w.grownBy w' none) (h : w.cell? a = some x) : w'.cell? a = some x := by
  rw [World.cell?_of_block (g.block a.block (cell_lt h) (by simp))]; exact h
theorem frozen_grown {w w' : World} {a : Addr} {x : Value} (g : w.grownBy w' none) (hc : w.cell? a = some x) (h : w.frozen? a = false) : w'.frozen? a = false := by
  have := g.block a.block (cell_lt hc) (by simp)
  simp only [World.frozen?, this] at h ⊢
  exact h
/-- What a cell holds. -/
def cellOf (w : World) (a : Addr) : Value := (w.cell? a).getD undef
theorem has_of {w : World} {a : Addr} {x : Value} (h : w.cell? a = some x) : w.cell? a = some (cellOf w a) := by
  unfold cellOf; rw [h]; rfl
theorem frozen_set (w : World) (a b : Addr) (v : Value) : (w.setCell a v).frozen? b = w.frozen? b := by
  simp only [World.frozen?, World.setCell, Array.getElem?_modify]
  by_cases e : a.block = b.block
  · rw [if_pos e]
    cases h : w.heap[b.block]? with
    | none => rfl
    | some o => cases o <;> rfl
  · rw [if_neg e]
/-- A struct of two cells was stored. -/
def set2 (w : World) (g : Nat) (u v : Value) : World := (w.setCell ⟨g, 0, none⟩ u).setCell ⟨g, 1, none⟩ v
theorem set2_far {w : World} {g : Nat} {u v x : Value} {a : Addr} (h : w.cell? a = some x) (hg : a.block ≠ g) : (set2 w g u v).cell? a = some x := by
  unfold set2
  rw [World.cell?_setCell_far _ _ _ _ (fun e => hg e.symm), World.cell?_setCell_far _ _ _ _ (fun e => hg e.symm)]; exact h
theorem set2_fst {w : World} {g : Nat} {u v x : Value} (h : w.cell? ⟨g, 0, none⟩ = some x) : (set2 w g u v).cell? ⟨g, 0, none⟩ = some u := by
  unfold set2
  rw [World.cell?_setCell_other _ _ _ _ (by simp)]
  exact World.cell?_setCell_same' _ _ _ (by rw [h]; rfl)
theorem set2_snd {w : World} {g : Nat} {u v x : Value} (h : w.cell? ⟨g, 1, none⟩ = some x) : (set2 w g u v).cell? ⟨g, 1, none⟩ = some v := by
  unfold set2
  refine World.cell?_setCell_same' _ _ _ ?_
  rw [World.cell?_setCell_other _ _ _ _ (by simp), h]; rfl
theorem set2_frozen {w : World} {g : Nat} {u v : Value} {a : Addr} (h : w.frozen? a = false) : (set2 w g u v).frozen? a = false := by
  unfold set2; rw [frozen_set, frozen_set]; exact h
theorem set2_grown (w : World) (g : Nat) (u v : Value) : w.grownBy (set2 w g u v) (some g) := grown_trans (grown_set _ _ _ _) (grown_set _ _ _ _)


theorem frozen_new (w : World) (c : Array Value) (t : TypeId) (a : Addr) (h : w.frozen? a = false) : (w.alloc (.cells c t)).frozen? a = false := by
  by_cases e : a.block = w.heap.size
  · simp only [World.frozen?, e, heap_alloc_new]
    simp
  · by_cases e2 : a.block < w.heap.size
    · simp only [World.frozen?, Below.heap_alloc _ _ _ e2] at h ⊢
      exact h
    · have : (w.alloc (.cells c t)).heap[a.block]? = none := Array.getElem?_eq_none (by simp; omega)
      simp only [World.frozen?, this]
theorem frozen_out {w : World} {a : Addr} (h : w.heap.size ≤ a.block) : w.frozen? a = false := by
  simp only [World.frozen?, Array.getElem?_eq_none h]

/-- The boxes rs, each of two cells, may be written; W is an older world. -/
def KeptR (W : World) : List Nat → World → Prop
  | [], w => W.grownBy w none
  | g :: rs, w => w.cell? ⟨g, 0, none⟩ = some (cellOf w ⟨g, 0, none⟩) ∧ w.cell? ⟨g, 1, none⟩ = some (cellOf w ⟨g, 1, none⟩) ∧ w.frozen? ⟨g, 0, none⟩ = false ∧ w.frozen? ⟨g, 1, none⟩ = false ∧ KeptR W rs w
/-- And the cells cs hold what they say. -/
def Kept (W : World) : List (Nat × Nat × Value) → List Nat → World → Prop
  | [], rs, w => KeptR W rs w
  | (g, o, x) :: cs, rs, w => w.cell? ⟨g, o, none⟩ = some x ∧ Kept W cs rs w
theorem KeptR.grown {W w w' : World} : ∀ (rs : List Nat), KeptR W rs w → w.grownBy w' none → KeptR W rs w'
  | [], h, g => grown_trans h g
  | _ :: rs, h, g => ⟨has_of (cell_grown g h.1), has_of (cell_grown g h.2.1), frozen_grown g h.1 h.2.2.1, frozen_grown g h.2.1 h.2.2.2.1, KeptR.grown rs h.2.2.2.2 g⟩
theorem Kept.grown {W w w' : World} : ∀ (cs : List (Nat × Nat × Value)) (rs : List Nat), Kept W cs rs w → w.grownBy w' none → Kept W cs rs w'
  | [], rs, h, g => KeptR.grown rs h g
  | (_, _, _) :: cs, rs, h, g => ⟨cell_grown g h.1, Kept.grown cs rs h.2 g⟩
theorem set2_has {w : World} {g g' o : Nat} {u v : Value} (ho : o = 0 ∨ o = 1) (h : w.cell? ⟨g', o, none⟩ = some (cellOf w ⟨g', o, none⟩)) : (set2 w g u v).cell? ⟨g', o, none⟩ = some (cellOf (set2 w g u v) ⟨g', o, none⟩) := by
  by_cases e : g' = g
  · subst e
    rcases ho with rfl | rfl
    · exact has_of (set2_fst h)
    · exact has_of (set2_snd h)
  · exact has_of (set2_far h e)
theorem KeptR.set {W w : World} {g : Nat} {u v : Value} : ∀ (rs : List Nat), W.heap.size ≤ g → KeptR W rs w → KeptR W rs (set2 w g u v)
  | [], hg, h => grown_new h (set2_grown _ _ _ _) hg
  | _ :: rs, hg, h => ⟨set2_has (.inl rfl) h.1, set2_has (.inr rfl) h.2.1, set2_frozen h.2.2.1, set2_frozen h.2.2.2.1, KeptR.set rs hg h.2.2.2.2⟩
theorem Kept.set {W w : World} {g : Nat} {u v : Value} : ∀ (cs : List (Nat × Nat × Value)) (rs : List Nat), (cs.all fun c => c.1 != g) = true → W.heap.size ≤ g → Kept W cs rs w → Kept W cs rs (set2 w g u v)
  | [], rs, _, hg, h => KeptR.set rs hg h
  | (_, _, _) :: cs, rs, hc, hg, h => by
    simp only [List.all_cons, Bool.and_eq_true, bne_iff_ne, ne_eq] at hc
    exact ⟨set2_far h.1 hc.1, Kept.set cs rs (by simpa using hc.2) hg h.2⟩
theorem Kept.step {W w w' : World} (cs : List (Nat × Nat × Value)) (rs : List Nat) (g : w.grownBy w' none) (h : Kept W cs rs w) : Kept W cs rs w' := Kept.grown cs rs h g
theorem Kept.start (w : World) : Kept w [] [] w := grown_refl w none
theorem Kept.box {W w : World} {cs : List (Nat × Nat × Value)} {rs : List Nat} (g : Nat) (x y : Value) (t : TypeId) (h : Kept W cs rs w) (hg : w.heap.size = g) : Kept W ((g, 0, x) :: (g, 1, y) :: cs) rs (w.alloc (.cells #[x, y] t)) := by
  subst hg
  exact ⟨by simp [go_sem], by simp [go_sem], Kept.grown cs rs h (grown_alloc _ _ _)⟩
theorem Kept.res {W w : World} {rs : List Nat} (g : Nat) (x y : Value) (t : TypeId) : ∀ (cs : List (Nat × Nat × Value)), Kept W cs rs w → w.heap.size = g → Kept W cs (g :: rs) (w.alloc (.cells #[x, y] t))
  | [], h, hg => by
    subst hg
    have c0 : (w.alloc (.cells #[x, y] t)).cell? ⟨w.heap.size, 0, none⟩ = some x := by simp [go_sem]
    have c1 : (w.alloc (.cells #[x, y] t)).cell? ⟨w.heap.size, 1, none⟩ = some y := by simp [go_sem]
    exact ⟨has_of c0, has_of c1, frozen_new _ _ _ _ (frozen_out (Nat.le_refl _)), frozen_new _ _ _ _ (frozen_out (Nat.le_refl _)), KeptR.grown rs h (grown_alloc _ _ _)⟩
  | (g', o, x') :: cs, h, hg => ⟨cell_grown (grown_alloc _ _ _) h.1, Kept.res g x y t cs h.2 hg⟩
theorem KeptR.all {W w : World} : ∀ (rs : List Nat), KeptR W rs w → W.grownBy w none
  | [], h => h
  | _ :: rs, h => KeptR.all rs h.2.2.2.2
theorem Kept.all {W w : World} : ∀ (cs : List (Nat × Nat × Value)) (rs : List Nat), Kept W cs rs w → W.grownBy w none
  | [], rs, h => KeptR.all rs h
  | _ :: cs, rs, h => Kept.all cs rs h.2

theorem Kept.size {W w : World} {cs : List (Nat × Nat × Value)} {rs : List Nat} (h : Kept W cs rs w) : W.heap.size ≤ w.heap.size := (Kept.all cs rs h).size
theorem KeptR.lt {W w : World} {g : Nat} : ∀ (rs : List Nat), g ∈ rs → KeptR W rs w → g < w.heap.size
  | _ :: rs, hm, h => by
    rcases List.mem_cons.1 hm with rfl | hm
    · exact cell_lt h.1
    · exact KeptR.lt rs hm h.2.2.2.2
theorem Kept.lt {W w : World} {g : Nat} : ∀ {cs : List (Nat × Nat × Value)} {rs : List Nat}, Kept W cs rs w → g ∈ rs → g < w.heap.size
  | [], rs, h, hm => KeptR.lt rs hm h
  | _ :: _, _, h, hm => Kept.lt h.2 hm

theorem set_none {w : World} {a : Addr} {u : Value} (b : Addr) (h : w.cell? b = none) : (w.setCell a u).cell? b = none := by
  by_cases e : a = b
  · subst e
    simp only [World.cell?, World.setCell, Array.getElem?_modify] at h ⊢
    cases hh : w.heap[a.block]? with
    | none => simp
    | some o =>
      rw [hh] at h
      cases o <;> simp_all
  · rw [World.cell?_setCell_other _ _ _ _ e]; exact h
theorem set2_read0 {w : World} {g : Nat} {u v x : Value} (h : (set2 w g u v).cell? ⟨g, 0, none⟩ = some x) : (set2 w g u v).cell? ⟨g, 0, none⟩ = some u := by
  cases hc : w.cell? ⟨g, 0, none⟩ with
  | some y => exact set2_fst hc
  | none => rw [set2, set_none _ (set_none _ hc)] at h; cases h
theorem set2_read1 {w : World} {g : Nat} {u v x : Value} (h : (set2 w g u v).cell? ⟨g, 1, none⟩ = some x) : (set2 w g u v).cell? ⟨g, 1, none⟩ = some v := by
  cases hc : w.cell? ⟨g, 1, none⟩ with
  | some y => exact set2_snd hc
  | none => rw [set2, set_none _ (set_none _ hc)] at h; cases h
theorem dig_some (b X : Nat) (hb : 2 ≤ b) : decide (0 < (dig b X).length) = decide (0 < X) := by
  have := dig_len_zero hb (n := X)
  exact decide_eq_decide.2 ⟨fun h => by omega, fun h => by omega⟩
theorem own_ne {w : World} {e : TypeId} {k : IntKind} {B g : Nat} {v : Value} {xs : List Nat} (h : Own w e k B v xs) (hg : g < B) : some g = none ∨ v.ownBlock ≠ some g :=
  .inr fun x => by have := (h.lt g x).1; omega

/-- A struct result lies in a box. -/
theorem post_box24 {fn : Func} {R : Ending → World → Prop} {a : Act} {w : World} {r g : Nat} {x y : Value} (hres : fn.results = #[ResultVar.cell r 24]) (hd : a.defers = []) (hr : a.tmps[r]? = some (.pointer (some ⟨g, 0, none⟩)))
    (c0 : w.cell? ⟨g, 0, none⟩ = some x) (c1 : w.cell? ⟨g, 1, none⟩ = some y) (h : R (.returned (.agg #[x, y])) w) : bodyPost Try.prog fn R .ret a w := by
  simp [bodyPost, results, hres, hr, c0, c1, go_sem, h, hd]
theorem post_box28 {fn : Func} {R : Ending → World → Prop} {a : Act} {w : World} {r g : Nat} {x y : Value} (hres : fn.results = #[ResultVar.cell r 28]) (hd : a.defers = []) (hr : a.tmps[r]? = some (.pointer (some ⟨g, 0, none⟩)))
    (c0 : w.cell? ⟨g, 0, none⟩ = some x) (c1 : w.cell? ⟨g, 1, none⟩ = some y) (h : R (.returned (.agg #[x, y])) w) : bodyPost Try.prog fn R .ret a w := by
  simp [bodyPost, results, hres, hr, c0, c1, go_sem, h, hd]

/-- A sign and a size. -/
def sg (b : Bool) (X : Nat) : Int := if b then -(X : Int) else X
theorem sg_abs (b : Bool) (X : Nat) : (sg b X).natAbs = X := by cases b <;> simp [sg]
theorem sg_not (b : Bool) (X : Nat) : sg (!b) X = - sg b X := by cases b <;> simp [sg]
theorem sg_neg (b : Bool) (X : Nat) : decide (sg b X < 0) = (b && decide (0 < X)) := by
  cases b
  · simp [sg]
  · simp [sg]
theorem sg_self (z : Int) : sg (decide (z < 0)) z.natAbs = z := by
  unfold sg; split <;> rename_i h <;> simp at h <;> omega
/-- v is the whole number z, normal or not, of a size below the base to the k. -/
def IntV (w : World) (v : Value) (z : Int) (k : Nat) : Prop := ∃ (b : Bool) (s : Value) (X : Nat), v = .agg #[.bool b, s] ∧ Num w s X k ∧ z = sg b X
theorem IntV.grown {w w' : World} {v : Value} {z : Int} {k : Nat} (h : IntV w v z k) (g : w.grownBy w' none) : IntV w' v z k := by
  obtain ⟨b, s, X, h1, h2, h3⟩ := h
  exact ⟨b, s, X, h1, h2.grown g, h3⟩
/-- v is the whole number z, normal, its limbs in memory of the call's own (blocks from B on). -/
def OwnI (w : World) (B : Nat) (v : Value) (z : Int) : Prop := ∃ p cap, v = .agg #[.bool (decide (z < 0)), .slice p (dig 4294967296 z.natAbs).length cap] ∧ Own w 65 .u32 B (.slice p (dig 4294967296 z.natAbs).length cap) (dig 4294967296 z.natAbs)
theorem OwnI.grown {w w' : World} {B : Nat} {v : Value} {z : Int} (h : OwnI w B v z) (g : w.grownBy w' none) : OwnI w' B v z := by
  obtain ⟨p, cap, h1, h2⟩ := h
  exact ⟨p, cap, h1, h2.grown g (.inl rfl)⟩
theorem OwnI.intV {w : World} {B : Nat} {v : Value} {z : Int} {k : Nat} (h : OwnI w B v z) (hb : Bd z.natAbs k) : IntV w v z k := by
  obtain ⟨p, cap, h1, h2⟩ := h
  exact ⟨_, _, _, h1, (show NumC w _ _ _ from ⟨h2.sl, hb⟩).num, (sg_self z).symm⟩
/-- A whole number was made. -/
def MadeI (w : World) (z : Int) (k : Nat) (e : Ending) (w' : World) : Prop := ∃ v, e = .returned v ∧ OwnI w' w.heap.size v z ∧ Bd z.natAbs k ∧ w.grownBy w' none

/-- The end of a function that hands back a signed row. -/
theorem end_signed {fn : Func} {a : Act} {W w : World} {r g X k B cap : Nat} {b : Bool} {p : Option Addr} {z : Int} {x y : Value} (hres : fn.results = #[ResultVar.cell r 24]) (hd : a.defers = []) (hr : a.tmps[r]? = some (.pointer (some ⟨g, 0, none⟩)))
    (h0 : (set2 w g (.bool (b && decide (0 < (dig 4294967296 X).length))) (.slice p (dig 4294967296 X).length cap)).cell? ⟨g, 0, none⟩ = some x)
    (h1 : (set2 w g (.bool (b && decide (0 < (dig 4294967296 X).length))) (.slice p (dig 4294967296 X).length cap)).cell? ⟨g, 1, none⟩ = some y)
    (hG : W.grownBy (set2 w g (.bool (b && decide (0 < (dig 4294967296 X).length))) (.slice p (dig 4294967296 X).length cap)) none)
    (ho : Own w 65 .u32 B (.slice p (dig 4294967296 X).length cap) (dig 4294967296 X)) (hB : W.heap.size ≤ B) (hg : g < B) (hz : sg b X = z) (hb : Bd X k) :
    bodyPost Try.prog fn (MadeI W z k) .ret a (set2 w g (.bool (b && decide (0 < (dig 4294967296 X).length))) (.slice p (dig 4294967296 X).length cap)) := by
  subst hz
  refine post_box24 hres hd hr (set2_read0 h0) (set2_read1 h1) ⟨_, rfl, ⟨p, cap, ?_, ?_⟩, by rw [sg_abs]; exact hb, hG⟩
  · rw [sg_neg, sg_abs, dig_some _ _ (by omega)]
  · rw [sg_abs]
    exact ((ho.mono hB).grown (set2_grown _ _ _ _) (own_ne ho hg))

end Go.Proofs.Ytmmmpdpgkjcohaa
