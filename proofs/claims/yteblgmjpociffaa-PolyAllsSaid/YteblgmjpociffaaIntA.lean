/- Boxes: struct values of two cells in blocks of their own; how they outlive what is done beside them. Package whole, one contract a function: signed, Norm, Neg, Abs, below, Cmp. Package whole: below, Cmp, difference, Add, Sub, Mul. Package whole: Add, Sub, DivMod, Exact; Int's methods. Package whole: DivMod, Exact. Package whole: DivMod and Exact of numbers. Package whole: limbsOf, Of, low, Small. -/
import Derived.Test.YteblgmjpociffaaRefK
import Derived.Deep.RegionHeld3
namespace Go.Proofs.Yteblgmjpociffaa
open Go.RowKit

theorem cell_lt {w : World} {a : Addr} {x : Value} (h : w.cell? a = some x) : a.block < w.heap.size := by
  rcases Nat.lt_or_ge a.block w.heap.size with h1 | h1
  · exact h1
  · simp [World.cell?, Array.getElem?_eq_none h1] at h
theorem cell_grown {w w' : World} {a : Addr} {x : Value} (g : w.grownBy w' none) (h : w.cell? a = some x) : w'.cell? a = some x := by
  rw [World.cell?_of_block (g.block a.block (cell_lt h) (by simp))]; exact h
theorem frozen_grown {w w' : World} {a : Addr} {x : Value} (g : w.grownBy w' none) (hc : w.cell? a = some x) (h : w.frozen? a = false) : w'.frozen? a = false := by
  have := g.block a.block (cell_lt hc) (by simp)
  simp only [World.frozen?, this] at h ⊢
  exact h
/-- What a cell holds. -/
def cellOf (w : World) (a : Addr) : Value := (w.cell? a).getD undef
theorem has_of {w : World} {a : Addr} {x : Value} (h : w.cell? a = some x) : w.cell? a = some (cellOf w a) := by
  unfold cellOf; rw [h]; rfl
theorem frozen_set (w : World) (a b : Addr) (v : Value) : (w.setCell a v).frozen? b = w.frozen? b := by
  simp only [World.frozen?, World.setCell, Array.getElem?_modify]
  by_cases e : a.block = b.block
  · rw [if_pos e]
    cases h : w.heap[b.block]? with
    | none => rfl
    | some o => cases o <;> rfl
  · rw [if_neg e]
/-- A struct of two cells was stored. -/
def set2 (w : World) (g : Nat) (u v : Value) : World := (w.setCell ⟨g, 0, none⟩ u).setCell ⟨g, 1, none⟩ v
theorem set2_far {w : World} {g : Nat} {u v x : Value} {a : Addr} (h : w.cell? a = some x) (hg : a.block ≠ g) : (set2 w g u v).cell? a = some x := by
  unfold set2
  rw [World.cell?_setCell_far _ _ _ _ (fun e => hg e.symm), World.cell?_setCell_far _ _ _ _ (fun e => hg e.symm)]; exact h
theorem set2_fst {w : World} {g : Nat} {u v x : Value} (h : w.cell? ⟨g, 0, none⟩ = some x) : (set2 w g u v).cell? ⟨g, 0, none⟩ = some u := by
  unfold set2
  rw [World.cell?_setCell_other _ _ _ _ (by simp)]
  exact World.cell?_setCell_same' _ _ _ (by rw [h]; rfl)
theorem set2_snd {w : World} {g : Nat} {u v x : Value} (h : w.cell? ⟨g, 1, none⟩ = some x) : (set2 w g u v).cell? ⟨g, 1, none⟩ = some v := by
  unfold set2
  refine World.cell?_setCell_same' _ _ _ ?_
  rw [World.cell?_setCell_other _ _ _ _ (by simp), h]; rfl
theorem set2_frozen {w : World} {g : Nat} {u v : Value} {a : Addr} (h : w.frozen? a = false) : (set2 w g u v).frozen? a = false := by
  unfold set2; rw [frozen_set, frozen_set]; exact h
theorem set2_grown (w : World) (g : Nat) (u v : Value) : w.grownBy (set2 w g u v) (some g) := grown_trans (grown_set _ _ _ _) (grown_set _ _ _ _)


theorem frozen_new (w : World) (c : Array Value) (t : TypeId) (a : Addr) (h : w.frozen? a = false) : (w.alloc (.cells c t)).frozen? a = false := by
  by_cases e : a.block = w.heap.size
  · simp only [World.frozen?, e, heap_alloc_new]
    simp
  · by_cases e2 : a.block < w.heap.size
    · simp only [World.frozen?, Below.heap_alloc _ _ _ e2] at h ⊢
      exact h
    · have : (w.alloc (.cells c t)).heap[a.block]? = none := Array.getElem?_eq_none (by simp; omega)
      simp only [World.frozen?, this]
theorem frozen_out {w : World} {a : Addr} (h : w.heap.size ≤ a.block) : w.frozen? a = false := by
  simp only [World.frozen?, Array.getElem?_eq_none h]

/-- The boxes rs, each of two cells, may be written; W is an older world. -/
def KeptR (W : World) : List Nat → World → Prop
  | [], w => W.grownBy w none
  | g :: rs, w => w.cell? ⟨g, 0, none⟩ = some (cellOf w ⟨g, 0, none⟩) ∧ w.cell? ⟨g, 1, none⟩ = some (cellOf w ⟨g, 1, none⟩) ∧ w.frozen? ⟨g, 0, none⟩ = false ∧ w.frozen? ⟨g, 1, none⟩ = false ∧ KeptR W rs w
/-- And the cells cs hold what they say. -/
def Kept (W : World) : List (Nat × Nat × Value) → List Nat → World → Prop
  | [], rs, w => KeptR W rs w
  | (g, o, x) :: cs, rs, w => w.cell? ⟨g, o, none⟩ = some x ∧ Kept W cs rs w
theorem KeptR.grown {W w w' : World} : ∀ (rs : List Nat), KeptR W rs w → w.grownBy w' none → KeptR W rs w'
  | [], h, g => grown_trans h g
  | _ :: rs, h, g => ⟨has_of (cell_grown g h.1), has_of (cell_grown g h.2.1), frozen_grown g h.1 h.2.2.1, frozen_grown g h.2.1 h.2.2.2.1, KeptR.grown rs h.2.2.2.2 g⟩
theorem Kept.grown {W w w' : World} : ∀ (cs : List (Nat × Nat × Value)) (rs : List Nat), Kept W cs rs w → w.grownBy w' none → Kept W cs rs w'
  | [], rs, h, g => KeptR.grown rs h g
  | (_, _, _) :: cs, rs, h, g => ⟨cell_grown g h.1, Kept.grown cs rs h.2 g⟩
theorem set2_has {w : World} {g g' o : Nat} {u v : Value} (ho : o = 0 ∨ o = 1) (h : w.cell? ⟨g', o, none⟩ = some (cellOf w ⟨g', o, none⟩)) : (set2 w g u v).cell? ⟨g', o, none⟩ = some (cellOf (set2 w g u v) ⟨g', o, none⟩) := by
  by_cases e : g' = g
  · subst e
    rcases ho with rfl | rfl
    · exact has_of (set2_fst h)
    · exact has_of (set2_snd h)
  · exact has_of (set2_far h e)
theorem KeptR.set {W w : World} {g : Nat} {u v : Value} : ∀ (rs : List Nat), W.heap.size ≤ g → KeptR W rs w → KeptR W rs (set2 w g u v)
  | [], hg, h => grown_new h (set2_grown _ _ _ _) hg
  | _ :: rs, hg, h => ⟨set2_has (.inl rfl) h.1, set2_has (.inr rfl) h.2.1, set2_frozen h.2.2.1, set2_frozen h.2.2.2.1, KeptR.set rs hg h.2.2.2.2⟩
theorem Kept.set {W w : World} {g : Nat} {u v : Value} : ∀ (cs : List (Nat × Nat × Value)) (rs : List Nat), (cs.all fun c => c.1 != g) = true → W.heap.size ≤ g → Kept W cs rs w → Kept W cs rs (set2 w g u v)
  | [], rs, _, hg, h => KeptR.set rs hg h
  | (_, _, _) :: cs, rs, hc, hg, h => by
    simp only [List.all_cons, Bool.and_eq_true, bne_iff_ne, ne_eq] at hc
    exact ⟨set2_far h.1 hc.1, Kept.set cs rs (by simpa using hc.2) hg h.2⟩
theorem Kept.step {W w w' : World} (cs : List (Nat × Nat × Value)) (rs : List Nat) (g : w.grownBy w' none) (h : Kept W cs rs w) : Kept W cs rs w' := Kept.grown cs rs h g
theorem Kept.start (w : World) : Kept w [] [] w := grown_refl w none
theorem Kept.box {W w : World} {cs : List (Nat × Nat × Value)} {rs : List Nat} (g : Nat) (x y : Value) (t : TypeId) (h : Kept W cs rs w) (hg : w.heap.size = g) : Kept W ((g, 0, x) :: (g, 1, y) :: cs) rs (w.alloc (.cells #[x, y] t)) := by
  subst hg
  exact ⟨by simp [go_sem], by simp [go_sem], Kept.grown cs rs h (grown_alloc _ _ _)⟩
theorem Kept.res {W w : World} {rs : List Nat} (g : Nat) (x y : Value) (t : TypeId) : ∀ (cs : List (Nat × Nat × Value)), Kept W cs rs w → w.heap.size = g → Kept W cs (g :: rs) (w.alloc (.cells #[x, y] t))
  | [], h, hg => by
    subst hg
    have c0 : (w.alloc (.cells #[x, y] t)).cell? ⟨w.heap.size, 0, none⟩ = some x := by simp [go_sem]
    have c1 : (w.alloc (.cells #[x, y] t)).cell? ⟨w.heap.size, 1, none⟩ = some y := by simp [go_sem]
    exact ⟨has_of c0, has_of c1, frozen_new _ _ _ _ (frozen_out (Nat.le_refl _)), frozen_new _ _ _ _ (frozen_out (Nat.le_refl _)), KeptR.grown rs h (grown_alloc _ _ _)⟩
  | (g', o, x') :: cs, h, hg => ⟨cell_grown (grown_alloc _ _ _) h.1, Kept.res g x y t cs h.2 hg⟩
theorem KeptR.all {W w : World} : ∀ (rs : List Nat), KeptR W rs w → W.grownBy w none
  | [], h => h
  | _ :: rs, h => KeptR.all rs h.2.2.2.2
theorem Kept.all {W w : World} : ∀ (cs : List (Nat × Nat × Value)) (rs : List Nat), Kept W cs rs w → W.grownBy w none
  | [], rs, h => KeptR.all rs h
  | _ :: cs, rs, h => Kept.all cs rs h.2

theorem Kept.size {W w : World} {cs : List (Nat × Nat × Value)} {rs : List Nat} (h : Kept W cs rs w) : W.heap.size ≤ w.heap.size := (Kept.all cs rs h).size
theorem KeptR.lt {W w : World} {g : Nat} : ∀ (rs : List Nat), g ∈ rs → KeptR W rs w → g < w.heap.size
  | _ :: rs, hm, h => by
    rcases List.mem_cons.1 hm with rfl | hm
    · exact cell_lt h.1
    · exact KeptR.lt rs hm h.2.2.2.2
theorem Kept.lt {W w : World} {g : Nat} : ∀ {cs : List (Nat × Nat × Value)} {rs : List Nat}, Kept W cs rs w → g ∈ rs → g < w.heap.size
  | [], rs, h, hm => KeptR.lt rs hm h
  | _ :: _, _, h, hm => Kept.lt h.2 hm

theorem set_none {w : World} {a : Addr} {u : Value} (b : Addr) (h : w.cell? b = none) : (w.setCell a u).cell? b = none := by
  by_cases e : a = b
  · subst e
    simp only [World.cell?, World.setCell, Array.getElem?_modify] at h ⊢
    cases hh : w.heap[a.block]? with
    | none => simp
    | some o =>
      rw [hh] at h
      cases o <;> simp_all
  · rw [World.cell?_setCell_other _ _ _ _ e]; exact h
theorem set2_read0 {w : World} {g : Nat} {u v x : Value} (h : (set2 w g u v).cell? ⟨g, 0, none⟩ = some x) : (set2 w g u v).cell? ⟨g, 0, none⟩ = some u := by
  cases hc : w.cell? ⟨g, 0, none⟩ with
  | some y => exact set2_fst hc
  | none => rw [set2, set_none _ (set_none _ hc)] at h; cases h
theorem set2_read1 {w : World} {g : Nat} {u v x : Value} (h : (set2 w g u v).cell? ⟨g, 1, none⟩ = some x) : (set2 w g u v).cell? ⟨g, 1, none⟩ = some v := by
  cases hc : w.cell? ⟨g, 1, none⟩ with
  | some y => exact set2_snd hc
  | none => rw [set2, set_none _ (set_none _ hc)] at h; cases h
theorem dig_some (b X : Nat) (hb : 2 ≤ b) : decide (0 < (dig b X).length) = decide (0 < X) := by
  have := dig_len_zero hb (n := X)
  exact decide_eq_decide.2 ⟨fun h => by omega, fun h => by omega⟩
theorem own_ne {w : World} {e : TypeId} {k : IntKind} {B g : Nat} {v : Value} {xs : List Nat} (h : Own w e k B v xs) (hg : g < B) : some g = none ∨ v.ownBlock ≠ some g :=
  .inr fun x => by have := (h.lt g x).1; omega

/-- A struct result lies in a box. -/
theorem post_box24 {fn : Func} {R : Ending → World → Prop} {a : Act} {w : World} {r g : Nat} {x y : Value} (hres : fn.results = #[ResultVar.cell r 36]) (hd : a.defers = []) (hr : a.tmps[r]? = some (.pointer (some ⟨g, 0, none⟩)))
    (c0 : w.cell? ⟨g, 0, none⟩ = some x) (c1 : w.cell? ⟨g, 1, none⟩ = some y) (h : R (.returned (.agg #[x, y])) w) : bodyPost Try.prog fn R .ret a w := by
  simp [bodyPost, results, hres, hr, c0, c1, go_sem, h, hd]
theorem post_box28 {fn : Func} {R : Ending → World → Prop} {a : Act} {w : World} {r g : Nat} {x y : Value} (hres : fn.results = #[ResultVar.cell r 45]) (hd : a.defers = []) (hr : a.tmps[r]? = some (.pointer (some ⟨g, 0, none⟩)))
    (c0 : w.cell? ⟨g, 0, none⟩ = some x) (c1 : w.cell? ⟨g, 1, none⟩ = some y) (h : R (.returned (.agg #[x, y])) w) : bodyPost Try.prog fn R .ret a w := by
  simp [bodyPost, results, hres, hr, c0, c1, go_sem, h, hd]

/-- A sign and a size. -/
def sg (b : Bool) (X : Nat) : Int := if b then -(X : Int) else X
theorem sg_abs (b : Bool) (X : Nat) : (sg b X).natAbs = X := by cases b <;> simp [sg]
theorem sg_not (b : Bool) (X : Nat) : sg (!b) X = - sg b X := by cases b <;> simp [sg]
theorem sg_neg (b : Bool) (X : Nat) : decide (sg b X < 0) = (b && decide (0 < X)) := by
  cases b
  · simp [sg]
  · simp [sg]
theorem sg_self (z : Int) : sg (decide (z < 0)) z.natAbs = z := by
  unfold sg; split <;> rename_i h <;> simp at h <;> omega
/-- v is the whole number z, normal or not, of a size below the base to the k. -/
def IntV (w : World) (v : Value) (z : Int) (k : Nat) : Prop := ∃ (b : Bool) (s : Value) (X : Nat), v = .agg #[.bool b, s] ∧ Num w s X k ∧ z = sg b X
theorem IntV.grown {w w' : World} {v : Value} {z : Int} {k : Nat} (h : IntV w v z k) (g : w.grownBy w' none) : IntV w' v z k := by
  obtain ⟨b, s, X, h1, h2, h3⟩ := h
  exact ⟨b, s, X, h1, h2.grown g, h3⟩
/-- v is the whole number z, normal, its limbs in memory of the call's own (blocks from B on). -/
def OwnI (w : World) (B : Nat) (v : Value) (z : Int) : Prop := ∃ p cap, v = .agg #[.bool (decide (z < 0)), .slice p (dig 4294967296 z.natAbs).length cap] ∧ Own w 73 .u32 B (.slice p (dig 4294967296 z.natAbs).length cap) (dig 4294967296 z.natAbs)
theorem OwnI.grown {w w' : World} {B : Nat} {v : Value} {z : Int} (h : OwnI w B v z) (g : w.grownBy w' none) : OwnI w' B v z := by
  obtain ⟨p, cap, h1, h2⟩ := h
  exact ⟨p, cap, h1, h2.grown g (.inl rfl)⟩
theorem OwnI.intV {w : World} {B : Nat} {v : Value} {z : Int} {k : Nat} (h : OwnI w B v z) (hb : Bd z.natAbs k) : IntV w v z k := by
  obtain ⟨p, cap, h1, h2⟩ := h
  exact ⟨_, _, _, h1, (show NumC w _ _ _ from ⟨h2.sl, hb⟩).num, (sg_self z).symm⟩
/-- A whole number was made. -/
def MadeI (w : World) (z : Int) (k : Nat) (e : Ending) (w' : World) : Prop := ∃ v, e = .returned v ∧ OwnI w' w.heap.size v z ∧ Bd z.natAbs k ∧ w.grownBy w' none

/-- The end of a function that hands back a signed row. -/
theorem end_signed {fn : Func} {a : Act} {W w : World} {r g X k B cap : Nat} {b : Bool} {p : Option Addr} {z : Int} {x y : Value} (hres : fn.results = #[ResultVar.cell r 36]) (hd : a.defers = []) (hr : a.tmps[r]? = some (.pointer (some ⟨g, 0, none⟩)))
    (h0 : (set2 w g (.bool (b && decide (0 < (dig 4294967296 X).length))) (.slice p (dig 4294967296 X).length cap)).cell? ⟨g, 0, none⟩ = some x)
    (h1 : (set2 w g (.bool (b && decide (0 < (dig 4294967296 X).length))) (.slice p (dig 4294967296 X).length cap)).cell? ⟨g, 1, none⟩ = some y)
    (hG : W.grownBy (set2 w g (.bool (b && decide (0 < (dig 4294967296 X).length))) (.slice p (dig 4294967296 X).length cap)) none)
    (ho : Own w 73 .u32 B (.slice p (dig 4294967296 X).length cap) (dig 4294967296 X)) (hB : W.heap.size ≤ B) (hg : g < B) (hz : sg b X = z) (hb : Bd X k) :
    bodyPost Try.prog fn (MadeI W z k) .ret a (set2 w g (.bool (b && decide (0 < (dig 4294967296 X).length))) (.slice p (dig 4294967296 X).length cap)) := by
  subst hz
  refine post_box24 hres hd hr (set2_read0 h0) (set2_read1 h1) ⟨_, rfl, ⟨p, cap, ?_, ?_⟩, by rw [sg_abs]; exact hb, hG⟩
  · rw [sg_neg, sg_abs, dig_some _ _ (by omega)]
  · rw [sg_abs]
    exact ((ho.mono hB).grown (set2_grown _ _ _ _) (own_ne ho hg))

end Go.Proofs.Yteblgmjpociffaa

namespace Go.Proofs.Yteblgmjpociffaa
open Go.RowKit

theorem signed_any (b : Bool) (p : Option Addr) (n cap : Nat) (w : World) :
    Calls Try.prog 73 #[.bool b, .slice p n cap] w fun e w' => e = .returned (.agg #[.bool (b && decide (0 < n)), .slice p n cap]) ∧ w.grownBy w' none := by
  go_enter Try.func73, Try.ntmps73
  cases b
  all_goals
    go_wp2_with fail
    simp [bodyPost, results, Try.results73, go_sem]
    exact grown_alloc _ _ _

set_option maxHeartbeats 1000000 in
theorem Norm_i {v : Value} {z : Int} {k : Nat} {w : World} (hx : IntV w v z k) (hk : k ≤ 1000000) :
    Calls Try.prog 53 #[v] w (MadeI w (z) k) := by
  obtain ⟨b, s, X, rfl, hx, rfl⟩ := hx
  obtain ⟨p, n, cap, rfl⟩ := hx.slice
  have Hx := Lib.hid hx
  clear hx
  have S0 : Kept w [(w.heap.size, 0, .bool b), (w.heap.size, 1, .slice p n cap)] [w.heap.size + 1] ((w.alloc (.cells #[.bool b, .slice p n cap] 36)).alloc (.cells #[.bool false, .slice none 0 0] 36)) := ((Kept.start w).box _ _ _ _ rfl).res _ _ _ _ _ (by simp)
  go_enter Try.func53, Try.ntmps53
  go_wp2_with fail
  go_region_held3 (fun w' => w'.cell? ⟨w.heap.size, 0, none⟩ = some (.bool b) ∧ w'.cell? ⟨w.heap.size, 1, none⟩ = some (.slice p n cap) ∧ w'.cell? ⟨w.heap.size + 1, 0, none⟩ = some (cellOf w' ⟨w.heap.size + 1, 0, none⟩) ∧ w'.cell? ⟨w.heap.size + 1, 1, none⟩ = some (cellOf w' ⟨w.heap.size + 1, 1, none⟩) ∧ w'.frozen? ⟨w.heap.size + 1, 0, none⟩ = false ∧ w'.frozen? ⟨w.heap.size + 1, 1, none⟩ = false ∧ w.grownBy w' none) (first | exact Kept.step (W := w) [(w.heap.size, 0, .bool b), (w.heap.size, 1, .slice p n cap)] [w.heap.size + 1] (by assumption) (by assumption) | exact Kept.set (W := w) [(w.heap.size, 0, .bool b), (w.heap.size, 1, .slice p n cap)] [w.heap.size + 1] (by simp <;> omega) (by first | omega | (simp <;> omega)) (by assumption) | exact Kept.step [(w.heap.size, 0, .bool b), (w.heap.size, 1, .slice p n cap)] [w.heap.size + 1] (grown_drew _ _) S0)
    (first | (go_at_call 80; refine (Norm_n (Hx.out.grown (by go_split_ands; assumption)) hk).mono ?_; rintro e w' ⟨v, rfl, h, bd, hg⟩; obtain ⟨pv, nv, rfl⟩ := h.slice) | (go_at_call 73; refine (signed_any _ _ _ _ _).mono ?_; rintro e w' ⟨rfl, hg⟩; replace h := h.grown hg (.inl rfl)))
  rename_i hend
  go_wp2_with fail
  exact end_signed Try.results53 rfl rfl hend.2.2.1 hend.2.2.2.1 hend.2.2.2.2.2.2 h (by first | omega | (simp <;> omega)) (by first | omega | (simp <;> omega)) (rfl) bd

set_option maxHeartbeats 1000000 in
theorem Neg_i {v : Value} {z : Int} {k : Nat} {w : World} (hx : IntV w v z k) (hk : k ≤ 1000000) :
    Calls Try.prog 48 #[v] w (MadeI w (-z) k) := by
  obtain ⟨b, s, X, rfl, hx, rfl⟩ := hx
  obtain ⟨p, n, cap, rfl⟩ := hx.slice
  have Hx := Lib.hid hx
  clear hx
  have S0 : Kept w [(w.heap.size, 0, .bool b), (w.heap.size, 1, .slice p n cap)] [w.heap.size + 1] ((w.alloc (.cells #[.bool b, .slice p n cap] 36)).alloc (.cells #[.bool false, .slice none 0 0] 36)) := ((Kept.start w).box _ _ _ _ rfl).res _ _ _ _ _ (by simp)
  go_enter Try.func48, Try.ntmps48
  go_wp2_with fail
  go_region_held3 (fun w' => w'.cell? ⟨w.heap.size, 0, none⟩ = some (.bool b) ∧ w'.cell? ⟨w.heap.size, 1, none⟩ = some (.slice p n cap) ∧ w'.cell? ⟨w.heap.size + 1, 0, none⟩ = some (cellOf w' ⟨w.heap.size + 1, 0, none⟩) ∧ w'.cell? ⟨w.heap.size + 1, 1, none⟩ = some (cellOf w' ⟨w.heap.size + 1, 1, none⟩) ∧ w'.frozen? ⟨w.heap.size + 1, 0, none⟩ = false ∧ w'.frozen? ⟨w.heap.size + 1, 1, none⟩ = false ∧ w.grownBy w' none) (first | exact Kept.step (W := w) [(w.heap.size, 0, .bool b), (w.heap.size, 1, .slice p n cap)] [w.heap.size + 1] (by assumption) (by assumption) | exact Kept.set (W := w) [(w.heap.size, 0, .bool b), (w.heap.size, 1, .slice p n cap)] [w.heap.size + 1] (by simp <;> omega) (by first | omega | (simp <;> omega)) (by assumption) | exact Kept.step [(w.heap.size, 0, .bool b), (w.heap.size, 1, .slice p n cap)] [w.heap.size + 1] (grown_drew _ _) S0)
    (first | (go_at_call 80; refine (Norm_n (Hx.out.grown (by go_split_ands; assumption)) hk).mono ?_; rintro e w' ⟨v, rfl, h, bd, hg⟩; obtain ⟨pv, nv, rfl⟩ := h.slice) | (go_at_call 73; refine (signed_any _ _ _ _ _).mono ?_; rintro e w' ⟨rfl, hg⟩; replace h := h.grown hg (.inl rfl)))
  rename_i hend
  go_wp2_with fail
  exact end_signed Try.results48 rfl rfl hend.2.2.1 hend.2.2.2.1 hend.2.2.2.2.2.2 h (by first | omega | (simp <;> omega)) (by first | omega | (simp <;> omega)) (sg_not _ _) bd

end Go.Proofs.Yteblgmjpociffaa

namespace Go.Proofs.Yteblgmjpociffaa
open Go.RowKit

/-- -1, 0, 1. -/
def cmpI (z y : Int) : Int := if z < y then -1 else if z = y then 0 else 1
theorem cmpI_pos (X Y : Nat) : cmpI (X : Int) (Y : Int) = cmpN X Y := by
  unfold cmpI cmpN
  split <;> split <;> (try split) <;> (try split) <;> omega
theorem cmpI_negs (X Y : Nat) : cmpI (-(X : Int)) (-(Y : Int)) = cmpN Y X := by
  unfold cmpI cmpN
  split <;> split <;> (try split) <;> (try split) <;> omega
theorem sg_nonneg {b : Bool} {X : Nat} (h : ¬ sg b X < 0) : sg b X = X := by
  cases b
  · rfl
  · simp [sg] at h ⊢; omega
theorem sg_below {b : Bool} {X : Nat} (h : sg b X < 0) : sg b X = -(X : Int) := by
  cases b
  · simp [sg] at h
    omega
  · rfl

set_option maxHeartbeats 1000000 in
theorem Below_i {v : Value} {z : Int} {k : Nat} {w : World} (r : Bool) (hx : IntV w v z k) (hk : k ≤ 1000000) (hr : decide (z < 0) = r) :
    Calls Try.prog 83 #[v] w fun e w' => e = .returned (.bool r) ∧ w.grownBy w' none := by
  subst hr
  obtain ⟨b, s, X, rfl, hx, rfl⟩ := hx
  obtain ⟨p, n, cap, rfl⟩ := hx.slice
  rw [sg_neg]
  have Hx := Lib.hid hx
  clear hx
  cases b
  · go_enter Try.func83, Try.ntmps83
    go_wp2_with fail
    go_ret
    exact ⟨rfl, grown_alloc _ _ _⟩
  · have Hd := Lib.hid (dig_some 2 X (by omega))
    go_enter Try.func83, Try.ntmps83
    go_wp2_with fail
    refine (Bits_n (Hx.out.grown (grown_alloc _ _ _)) hk).mono ?_
    rintro e w' ⟨rfl, rfl⟩
    generalize (dig 2 X).length = l at *
    go_wp2_with fail
    go_ret
    refine ⟨?_, grown_alloc _ _ _⟩
    have := Hd.out
    simp_all

set_option maxHeartbeats 2000000 in
theorem Cmp_i {v u : Value} {z y : Int} {i j : Nat} {w : World} (r : Int) (hx : IntV w v z i) (hy : IntV w u y j) (hi : i + j ≤ 1000000) (hr : cmpI z y = r) :
    Calls Try.prog 58 #[v, u] w fun e w' => e = .returned (.int .i64 r) ∧ w.grownBy w' none := by
  have Vx := Lib.hid hx
  have Vy := Lib.hid hy
  have Hr := Lib.hid hr
  obtain ⟨b, s, X, rfl, hx, rfl⟩ := hx
  obtain ⟨p, n, cap, rfl⟩ := hx.slice
  obtain ⟨b', s', Y, rfl, hy, rfl⟩ := hy
  obtain ⟨q, m, cap', rfl⟩ := hy.slice
  have Hx := Lib.hid hx
  have Hy := Lib.hid hy
  have S0 : Kept w [(w.heap.size + 1, 0, .bool b'), (w.heap.size + 1, 1, .slice q m cap'), (w.heap.size, 0, .bool b), (w.heap.size, 1, .slice p n cap)] [] ((w.alloc (.cells #[.bool b, .slice p n cap] 36)).alloc (.cells #[.bool b', .slice q m cap'] 36)) := ((Kept.start w).box _ _ _ _ rfl).box _ _ _ _ (by simp)
  clear hx hy hr
  by_cases hz : sg b X < 0
  · replace hz := Lib.hid hz
    by_cases hw : sg b' Y < 0
    · replace hw := Lib.hid hw
      go_enter Try.func58, Try.ntmps58
      go_wp2_with fail
      refine (Below_i true (Vx.out.grown (Kept.all _ _ S0)) (by omega) (decide_eq_true hz.out)).mono ?_
      rintro e w' ⟨rfl, hg⟩
      replace S0 := Kept.grown _ _ S0 hg
      clear hg
      obtain ⟨c0, c1, c2, c3, G⟩ := id S0
      go_wp2_with fail
      clear c0 c1 c2 c3 G
      refine (Below_i true (Vy.out.grown (Kept.all _ _ S0)) (by omega) (decide_eq_true hw.out)).mono ?_
      rintro e w' ⟨rfl, hg⟩
      replace S0 := Kept.grown _ _ S0 hg
      clear hg
      obtain ⟨c0, c1, c2, c3, G⟩ := id S0
      go_wp2_with fail
      clear c0 c1 c2 c3 G
      refine (Cmp_n r (Hy.out.grown (Kept.all _ _ S0)) (Hx.out.grown (Kept.all _ _ S0)) ?_).mono ?_
      · rw [← Hr.out]; exact (by rw [sg_below hz.out, sg_below hw.out, cmpI_negs])
      rintro e w' ⟨rfl, hg⟩
      replace S0 := Kept.grown _ _ S0 hg
      go_wp2_with fail
      go_ret
      exact ⟨rfl, Kept.all _ _ S0⟩
    · replace hw := Lib.hid hw
      obtain rfl : r = -1 := by
        have h1 := hz.out
        have h2 := hw.out
        rw [← Hr.out, cmpI, if_pos (by omega)]
      go_enter Try.func58, Try.ntmps58
      go_wp2_with fail
      refine (Below_i true (Vx.out.grown (Kept.all _ _ S0)) (by omega) (decide_eq_true hz.out)).mono ?_
      rintro e w' ⟨rfl, hg⟩
      replace S0 := Kept.grown _ _ S0 hg
      clear hg
      obtain ⟨c0, c1, c2, c3, G⟩ := id S0
      go_wp2_with fail
      clear c0 c1 c2 c3 G
      refine (Below_i false (Vy.out.grown (Kept.all _ _ S0)) (by omega) (decide_eq_false (Int.not_lt.2 hw.out))).mono ?_
      rintro e w' ⟨rfl, hg⟩
      replace S0 := Kept.grown _ _ S0 hg
      clear hg
      obtain ⟨c0, c1, c2, c3, G⟩ := id S0
      go_wp2_with fail
      clear c0 c1 c2 c3 G
      refine (Below_i true (Vx.out.grown (Kept.all _ _ S0)) (by omega) (decide_eq_true hz.out)).mono ?_
      rintro e w' ⟨rfl, hg⟩
      replace S0 := Kept.grown _ _ S0 hg
      clear hg
      obtain ⟨c0, c1, c2, c3, G⟩ := id S0
      go_wp2_with fail
      clear c0 c1 c2 c3 G
      go_ret
      exact ⟨rfl, Kept.all _ _ S0⟩
  · replace hz := Lib.hid hz
    by_cases hw : sg b' Y < 0
    · replace hw := Lib.hid hw
      obtain rfl : r = 1 := by
        have h1 := hz.out
        have h2 := hw.out
        rw [← Hr.out, cmpI, if_neg (by omega), if_neg (by omega)]
      go_enter Try.func58, Try.ntmps58
      go_wp2_with fail
      refine (Below_i false (Vx.out.grown (Kept.all _ _ S0)) (by omega) (decide_eq_false (Int.not_lt.2 hz.out))).mono ?_
      rintro e w' ⟨rfl, hg⟩
      replace S0 := Kept.grown _ _ S0 hg
      clear hg
      obtain ⟨c0, c1, c2, c3, G⟩ := id S0
      go_wp2_with fail
      clear c0 c1 c2 c3 G
      refine (Below_i false (Vx.out.grown (Kept.all _ _ S0)) (by omega) (decide_eq_false (Int.not_lt.2 hz.out))).mono ?_
      rintro e w' ⟨rfl, hg⟩
      replace S0 := Kept.grown _ _ S0 hg
      clear hg
      obtain ⟨c0, c1, c2, c3, G⟩ := id S0
      go_wp2_with fail
      clear c0 c1 c2 c3 G
      refine (Below_i true (Vy.out.grown (Kept.all _ _ S0)) (by omega) (decide_eq_true hw.out)).mono ?_
      rintro e w' ⟨rfl, hg⟩
      replace S0 := Kept.grown _ _ S0 hg
      clear hg
      obtain ⟨c0, c1, c2, c3, G⟩ := id S0
      go_wp2_with fail
      clear c0 c1 c2 c3 G
      go_ret
      exact ⟨rfl, Kept.all _ _ S0⟩
    · replace hw := Lib.hid hw
      go_enter Try.func58, Try.ntmps58
      go_wp2_with fail
      refine (Below_i false (Vx.out.grown (Kept.all _ _ S0)) (by omega) (decide_eq_false (Int.not_lt.2 hz.out))).mono ?_
      rintro e w' ⟨rfl, hg⟩
      replace S0 := Kept.grown _ _ S0 hg
      clear hg
      obtain ⟨c0, c1, c2, c3, G⟩ := id S0
      go_wp2_with fail
      clear c0 c1 c2 c3 G
      refine (Below_i false (Vx.out.grown (Kept.all _ _ S0)) (by omega) (decide_eq_false (Int.not_lt.2 hz.out))).mono ?_
      rintro e w' ⟨rfl, hg⟩
      replace S0 := Kept.grown _ _ S0 hg
      clear hg
      obtain ⟨c0, c1, c2, c3, G⟩ := id S0
      go_wp2_with fail
      clear c0 c1 c2 c3 G
      refine (Below_i false (Vy.out.grown (Kept.all _ _ S0)) (by omega) (decide_eq_false (Int.not_lt.2 hw.out))).mono ?_
      rintro e w' ⟨rfl, hg⟩
      replace S0 := Kept.grown _ _ S0 hg
      clear hg
      obtain ⟨c0, c1, c2, c3, G⟩ := id S0
      go_wp2_with fail
      clear c0 c1 c2 c3 G
      refine (Cmp_n r (Hx.out.grown (Kept.all _ _ S0)) (Hy.out.grown (Kept.all _ _ S0)) ?_).mono ?_
      · rw [← Hr.out]; exact (by rw [sg_nonneg (Int.not_lt.2 hz.out), sg_nonneg (Int.not_lt.2 hw.out), cmpI_pos])
      rintro e w' ⟨rfl, hg⟩
      replace S0 := Kept.grown _ _ S0 hg
      go_wp2_with fail
      go_ret
      exact ⟨rfl, Kept.all _ _ S0⟩

theorem end_made {fn : Func} {a : Act} {W w : World} {r g k B : Nat} {z : Int} {u v x y : Value} (hres : fn.results = #[ResultVar.cell r 36]) (hd : a.defers = []) (hr : a.tmps[r]? = some (.pointer (some ⟨g, 0, none⟩)))
    (h0 : (set2 w g u v).cell? ⟨g, 0, none⟩ = some x) (h1 : (set2 w g u v).cell? ⟨g, 1, none⟩ = some y) (hG : W.grownBy (set2 w g u v) none)
    (ho : OwnI w B (.agg #[u, v]) z) (hB : W.heap.size ≤ B) (hg : g < B) (hb : Bd z.natAbs k) : bodyPost Try.prog fn (MadeI W z k) .ret a (set2 w g u v) := by
  refine post_box24 hres hd hr (set2_read0 h0) (set2_read1 h1) ⟨_, rfl, ?_, hb, hG⟩
  obtain ⟨p, cap, h2, h3⟩ := ho
  refine ⟨p, cap, h2, ?_⟩
  simp only [Value.agg.injEq, Array.mk.injEq, List.cons.injEq, and_true] at h2
  obtain ⟨-, rfl⟩ := h2
  exact ((h3.mono hB).grown (set2_grown _ _ _ _) (own_ne h3 hg))

set_option maxHeartbeats 1000000 in
theorem Difference_n {v u : Value} {X Y i j : Nat} {w : World} (hx : Num w v X i) (hy : Num w u Y j) (hi : i + j ≤ 1000000) :
    Calls Try.prog 75 #[v, u] w (MadeI w ((X : Int) - Y) (i + j)) := by
  have Hx := Lib.hid hx
  have Hy := Lib.hid hy
  have Bx := Lib.hid (show Bd X (i + j) from hx.bd.more (by omega))
  have By := Lib.hid (show Bd Y (i + j) from hy.bd.more (by omega))
  have S0 : Kept w [] [w.heap.size] (w.alloc (.cells #[.bool false, .slice none 0 0] 36)) := (Kept.start w).res _ _ _ _ _ rfl
  clear hx hy
  by_cases hle : Y ≤ X
  · replace hle := Lib.hid hle
    go_enter Try.func75, Try.ntmps75
    go_wp2_with fail
    have S1 := S0
    refine (Sub_n (Hx.out.grown (Kept.all _ _ S0)) (Hy.out.grown (Kept.all _ _ S0)) (by omega) hle.out).mono ?_
    rintro e w' ⟨v, rfl, h, -, hg⟩
    obtain ⟨pv, nv, rfl⟩ := h.slice
    replace S0 := Kept.grown _ _ S0 hg
    clear hg
    go_wp2_with fail
    refine (signed_any _ _ _ _ _).mono ?_
    rintro e w' ⟨rfl, hg⟩
    replace S0 := Kept.grown _ _ S0 hg
    replace h := h.grown hg (.inl rfl)
    clear hg
    obtain ⟨r0, r1, r2, r3, G⟩ := id S0
    go_wp2_with fail
    exact end_signed (b := false) Try.results75 rfl rfl (set2_fst r0) (set2_snd r1) (Kept.all _ _ (Kept.set _ _ (by simp <;> omega) (by first | omega | (simp <;> omega)) S0)) h S1.size (S1.lt (by simp)) (by have := hle.out; simp [sg]; omega) (Bx.out.le (Nat.sub_le _ _))
  · replace hle := Lib.hid (Nat.lt_of_not_le hle)
    go_enter Try.func75, Try.ntmps75
    go_wp2_with fail
    refine (Sub_no (Hx.out.grown (Kept.all _ _ S0)) (Hy.out.grown (Kept.all _ _ S0)) (by omega) hle.out).mono ?_
    rintro e w' ⟨rfl, hg⟩
    replace S0 := Kept.grown _ _ S0 hg
    clear hg
    go_wp2_with fail
    have S1 := S0
    refine (Sub_n (Hy.out.grown (Kept.all _ _ S0)) (Hx.out.grown (Kept.all _ _ S0)) (by omega) (Nat.le_of_lt hle.out)).mono ?_
    rintro e w' ⟨v, rfl, h, -, hg⟩
    obtain ⟨pv, nv, rfl⟩ := h.slice
    replace S0 := Kept.grown _ _ S0 hg
    clear hg
    go_wp2_with fail
    refine (signed_any _ _ _ _ _).mono ?_
    rintro e w' ⟨rfl, hg⟩
    replace S0 := Kept.grown _ _ S0 hg
    replace h := h.grown hg (.inl rfl)
    clear hg
    obtain ⟨r0, r1, r2, r3, G⟩ := id S0
    go_wp2_with fail
    exact end_signed (b := true) Try.results75 rfl rfl (set2_fst r0) (set2_snd r1) (Kept.all _ _ (Kept.set _ _ (by simp <;> omega) (by first | omega | (simp <;> omega)) S0)) h S1.size (S1.lt (by simp)) (by have := hle.out; simp [sg]; omega) (By.out.le (Nat.sub_le _ _))

theorem sg_mul (b c : Bool) (X Y : Nat) : sg (b != c) (X * Y) = sg b X * sg c Y := by cases b <;> cases c <;> simp [sg, Int.neg_mul, Int.mul_neg]
set_option maxHeartbeats 2000000 in
theorem Mul_i {v u : Value} {z y : Int} {i j : Nat} {w : World} (hx : IntV w v z i) (hy : IntV w u y j) (hi : i + j ≤ 1000000) :
    Calls Try.prog 52 #[v, u] w (MadeI w (z * y) (i + j)) := by
  obtain ⟨b, s, X, rfl, hx, rfl⟩ := hx
  obtain ⟨p, n, cap, rfl⟩ := hx.slice
  obtain ⟨b', s', Y, rfl, hy, rfl⟩ := hy
  obtain ⟨q, m, cap', rfl⟩ := hy.slice
  have Hx := Lib.hid hx
  have Hy := Lib.hid hy
  have S0 : Kept w [(w.heap.size + 1, 0, .bool b'), (w.heap.size + 1, 1, .slice q m cap'), (w.heap.size, 0, .bool b), (w.heap.size, 1, .slice p n cap)] [w.heap.size + 1 + 1] (((w.alloc (.cells #[.bool b, .slice p n cap] 36)).alloc (.cells #[.bool b', .slice q m cap'] 36)).alloc (.cells #[.bool false, .slice none 0 0] 36)) := (((Kept.start w).box _ _ _ _ rfl).box _ _ _ _ (by simp)).res _ _ _ _ _ (by simp)
  clear hx hy
  go_enter Try.func52, Try.ntmps52
  go_wp2_with fail
  go_region_held3 (fun w' => w'.cell? ⟨w.heap.size + 1, 0, none⟩ = some (.bool b') ∧ w'.cell? ⟨w.heap.size + 1, 1, none⟩ = some (.slice q m cap') ∧ w'.cell? ⟨w.heap.size, 0, none⟩ = some (.bool b) ∧ w'.cell? ⟨w.heap.size, 1, none⟩ = some (.slice p n cap) ∧ w'.cell? ⟨w.heap.size + 1 + 1, 0, none⟩ = some (cellOf w' ⟨w.heap.size + 1 + 1, 0, none⟩) ∧ w'.cell? ⟨w.heap.size + 1 + 1, 1, none⟩ = some (cellOf w' ⟨w.heap.size + 1 + 1, 1, none⟩) ∧ w'.frozen? ⟨w.heap.size + 1 + 1, 0, none⟩ = false ∧ w'.frozen? ⟨w.heap.size + 1 + 1, 1, none⟩ = false ∧ w.grownBy w' none) (first | exact Kept.step (W := w) [(w.heap.size + 1, 0, .bool b'), (w.heap.size + 1, 1, .slice q m cap'), (w.heap.size, 0, .bool b), (w.heap.size, 1, .slice p n cap)] [w.heap.size + 1 + 1] (by assumption) (by assumption) | exact Kept.set (W := w) [(w.heap.size + 1, 0, .bool b'), (w.heap.size + 1, 1, .slice q m cap'), (w.heap.size, 0, .bool b), (w.heap.size, 1, .slice p n cap)] [w.heap.size + 1 + 1] (by simp <;> omega) (by first | omega | (simp <;> omega)) (by assumption) | exact Kept.step [(w.heap.size + 1, 0, .bool b'), (w.heap.size + 1, 1, .slice q m cap'), (w.heap.size, 0, .bool b), (w.heap.size, 1, .slice p n cap)] [w.heap.size + 1 + 1] (grown_drew _ _) S0)
    (first | (go_at_call 81; refine (Mul_n (Hx.out.grown (by go_split_ands; assumption)) (Hy.out.grown (by go_split_ands; assumption)) (by omega)).mono ?_; rintro e w' ⟨v, rfl, h, bd, hg⟩; obtain ⟨pv, nv, rfl⟩ := h.slice) | (go_at_call 73; refine (signed_any _ _ _ _ _).mono ?_; rintro e w' ⟨rfl, hg⟩; replace h := h.grown hg (.inl rfl)))
  rename_i hend
  go_wp2_with fail
  exact end_signed Try.results52 rfl rfl hend.2.2.2.2.1 hend.2.2.2.2.2.1 hend.2.2.2.2.2.2.2.2 h (by first | omega | (simp <;> omega)) (by first | omega | (simp <;> omega)) (sg_mul _ _ _ _) bd

theorem sg_add (b : Bool) (X Y : Nat) : sg b (X + Y) = sg b X + sg b Y := by cases b <;> simp [sg] <;> omega
set_option maxHeartbeats 2000000 in
theorem Add_same {b : Bool} {s s' : Value} {X Y i j : Nat} {w : World} (hx : Num w s X i) (hy : Num w s' Y j) (hi : i + j ≤ 1000000) :
    Calls Try.prog 41 #[.agg #[.bool b, s], .agg #[.bool b, s']] w (MadeI w (sg b X + sg b Y) (i + j + 1)) := by
  obtain ⟨p, n, cap, rfl⟩ := hx.slice
  obtain ⟨q, m, cap', rfl⟩ := hy.slice
  have Hx := Lib.hid hx
  have Hy := Lib.hid hy
  have S0 : Kept w [(w.heap.size + 1, 0, .bool b), (w.heap.size + 1, 1, .slice q m cap'), (w.heap.size, 0, .bool b), (w.heap.size, 1, .slice p n cap)] [w.heap.size + 1 + 1] (((w.alloc (.cells #[.bool b, .slice p n cap] 36)).alloc (.cells #[.bool b, .slice q m cap'] 36)).alloc (.cells #[.bool false, .slice none 0 0] 36)) := (((Kept.start w).box _ _ _ _ rfl).box _ _ _ _ (by simp)).res _ _ _ _ _ (by simp)
  clear hx hy
  go_enter Try.func41, Try.ntmps41
  obtain ⟨c0, c1, c2, c3, r0, r1, r2, r3, G⟩ := id S0
  go_wp2_with fail
  go_region_held3 (fun w' => w'.cell? ⟨w.heap.size + 1, 0, none⟩ = some (.bool b) ∧ w'.cell? ⟨w.heap.size + 1, 1, none⟩ = some (.slice q m cap') ∧ w'.cell? ⟨w.heap.size, 0, none⟩ = some (.bool b) ∧ w'.cell? ⟨w.heap.size, 1, none⟩ = some (.slice p n cap) ∧ w'.cell? ⟨w.heap.size + 1 + 1, 0, none⟩ = some (cellOf w' ⟨w.heap.size + 1 + 1, 0, none⟩) ∧ w'.cell? ⟨w.heap.size + 1 + 1, 1, none⟩ = some (cellOf w' ⟨w.heap.size + 1 + 1, 1, none⟩) ∧ w'.frozen? ⟨w.heap.size + 1 + 1, 0, none⟩ = false ∧ w'.frozen? ⟨w.heap.size + 1 + 1, 1, none⟩ = false ∧ w.grownBy w' none) (first | exact Kept.step (W := w) [(w.heap.size + 1, 0, .bool b), (w.heap.size + 1, 1, .slice q m cap'), (w.heap.size, 0, .bool b), (w.heap.size, 1, .slice p n cap)] [w.heap.size + 1 + 1] (by assumption) (by assumption) | exact Kept.set (W := w) [(w.heap.size + 1, 0, .bool b), (w.heap.size + 1, 1, .slice q m cap'), (w.heap.size, 0, .bool b), (w.heap.size, 1, .slice p n cap)] [w.heap.size + 1 + 1] (by simp <;> omega) (by first | omega | (simp <;> omega)) (by assumption) | exact Kept.step [(w.heap.size + 1, 0, .bool b), (w.heap.size + 1, 1, .slice q m cap'), (w.heap.size, 0, .bool b), (w.heap.size, 1, .slice p n cap)] [w.heap.size + 1 + 1] (grown_drew _ _) S0)
    (first | (go_at_call 74; refine (Add_n (Hx.out.grown (by go_split_ands; assumption)) (Hy.out.grown (by go_split_ands; assumption)) (by omega)).mono ?_; rintro e w' ⟨v, rfl, h, bd, hg⟩; obtain ⟨pv, nv, rfl⟩ := h.slice) | (go_at_call 73; refine (signed_any _ _ _ _ _).mono ?_; rintro e w' ⟨rfl, hg⟩; replace h := h.grown hg (.inl rfl)))
  rename_i hend
  go_wp2_with fail
  exact end_signed Try.results41 rfl rfl hend.2.2.2.2.1 hend.2.2.2.2.2.1 hend.2.2.2.2.2.2.2.2 h (by first | omega | (simp <;> omega)) (by first | omega | (simp <;> omega)) (sg_add _ _ _) bd

set_option maxHeartbeats 2000000 in
theorem Add_tf {s s' : Value} {X Y i j : Nat} {w : World} (hx : Num w s X i) (hy : Num w s' Y j) (hi : i + j ≤ 1000000) :
    Calls Try.prog 41 #[.agg #[.bool true, s], .agg #[.bool false, s']] w (MadeI w ((Y : Int) - X) (j + i)) := by
  obtain ⟨p, n, cap, rfl⟩ := hx.slice
  obtain ⟨q, m, cap', rfl⟩ := hy.slice
  have Hx := Lib.hid hx
  have Hy := Lib.hid hy
  have S0 : Kept w [(w.heap.size + 1, 0, .bool false), (w.heap.size + 1, 1, .slice q m cap'), (w.heap.size, 0, .bool true), (w.heap.size, 1, .slice p n cap)] [w.heap.size + 1 + 1] (((w.alloc (.cells #[.bool true, .slice p n cap] 36)).alloc (.cells #[.bool false, .slice q m cap'] 36)).alloc (.cells #[.bool false, .slice none 0 0] 36)) := (((Kept.start w).box _ _ _ _ rfl).box _ _ _ _ (by simp)).res _ _ _ _ _ (by simp)
  clear hx hy
  go_enter Try.func41, Try.ntmps41
  go_wp2_with fail
  refine (Difference_n (Hy.out.grown (Kept.all _ _ S0)) (Hx.out.grown (Kept.all _ _ S0)) (by omega)).mono ?_
  rintro e w' ⟨v, rfl, ho, bd, hg⟩
  obtain ⟨pv, nv, rfl, ho2⟩ := id ho
  clear ho2
  have S1 := S0
  replace S0 := Kept.grown _ _ S0 hg
  clear hg
  obtain ⟨c0, c1, c2, c3, r0, r1, r2, r3, G⟩ := id S0
  go_wp2_with fail
  exact end_made Try.results41 rfl rfl (set2_fst r0) (set2_snd r1) (Kept.all _ _ (Kept.set _ _ (by simp <;> omega) (by first | omega | (simp <;> omega)) S0)) ho S1.size (S1.lt (by simp)) bd

set_option maxHeartbeats 2000000 in
theorem Add_ft {s s' : Value} {X Y i j : Nat} {w : World} (hx : Num w s X i) (hy : Num w s' Y j) (hi : i + j ≤ 1000000) :
    Calls Try.prog 41 #[.agg #[.bool false, s], .agg #[.bool true, s']] w (MadeI w ((X : Int) - Y) (i + j)) := by
  obtain ⟨p, n, cap, rfl⟩ := hx.slice
  obtain ⟨q, m, cap', rfl⟩ := hy.slice
  have Hx := Lib.hid hx
  have Hy := Lib.hid hy
  have S0 : Kept w [(w.heap.size + 1, 0, .bool true), (w.heap.size + 1, 1, .slice q m cap'), (w.heap.size, 0, .bool false), (w.heap.size, 1, .slice p n cap)] [w.heap.size + 1 + 1] (((w.alloc (.cells #[.bool false, .slice p n cap] 36)).alloc (.cells #[.bool true, .slice q m cap'] 36)).alloc (.cells #[.bool false, .slice none 0 0] 36)) := (((Kept.start w).box _ _ _ _ rfl).box _ _ _ _ (by simp)).res _ _ _ _ _ (by simp)
  clear hx hy
  go_enter Try.func41, Try.ntmps41
  go_wp2_with fail
  refine (Difference_n (Hx.out.grown (Kept.all _ _ S0)) (Hy.out.grown (Kept.all _ _ S0)) (by omega)).mono ?_
  rintro e w' ⟨v, rfl, ho, bd, hg⟩
  obtain ⟨pv, nv, rfl, ho2⟩ := id ho
  clear ho2
  have S1 := S0
  replace S0 := Kept.grown _ _ S0 hg
  clear hg
  obtain ⟨c0, c1, c2, c3, r0, r1, r2, r3, G⟩ := id S0
  go_wp2_with fail
  exact end_made Try.results41 rfl rfl (set2_fst r0) (set2_snd r1) (Kept.all _ _ (Kept.set _ _ (by simp <;> omega) (by first | omega | (simp <;> omega)) S0)) ho S1.size (S1.lt (by simp)) bd

end Go.Proofs.Yteblgmjpociffaa

namespace Go.Proofs.Yteblgmjpociffaa
open Go.RowKit

theorem MadeI.of {w w' : World} {z y : Int} {k l : Nat} {e : Ending} (h : MadeI w z k e w') (hz : z = y) (hk : k ≤ l) : MadeI w y l e w' := by
  subst hz
  obtain ⟨v, h1, h2, h3, h4⟩ := h
  exact ⟨v, h1, h2, h3.more hk, h4⟩
theorem Add_i {v u : Value} {z y : Int} {i j : Nat} {w : World} (hx : IntV w v z i) (hy : IntV w u y j) (hi : i + j ≤ 1000000) :
    Calls Try.prog 41 #[v, u] w (MadeI w (z + y) (i + j + 1)) := by
  obtain ⟨b, s, X, rfl, hx, rfl⟩ := hx
  obtain ⟨b', s', Y, rfl, hy, rfl⟩ := hy
  cases b <;> cases b'
  · exact (Add_same hx hy hi).mono fun _ _ h => h
  · exact (Add_ft hx hy hi).mono fun _ _ h => h.of (by simp [sg]; omega) (by omega)
  · exact (Add_tf hx hy hi).mono fun _ _ h => h.of (by simp [sg]; omega) (by omega)
  · exact (Add_same hx hy hi).mono fun _ _ h => h

set_option maxHeartbeats 1000000 in
theorem Sub_i {v u : Value} {z y : Int} {i j : Nat} {w : World} (hx : IntV w v z i) (hy : IntV w u y j) (hi : i + j ≤ 1000000) :
    Calls Try.prog 46 #[v, u] w (MadeI w (z - y) (i + j + 1)) := by
  obtain ⟨b, s, X, rfl, hx, rfl⟩ := hx
  obtain ⟨p, n, cap, rfl⟩ := hx.slice
  obtain ⟨b', s', Y, rfl, hy, rfl⟩ := hy
  obtain ⟨q, m, cap', rfl⟩ := hy.slice
  have Hx := Lib.hid hx
  have Hy := Lib.hid hy
  have S0 : Kept w [(w.heap.size + 1, 0, .bool b'), (w.heap.size + 1, 1, .slice q m cap'), (w.heap.size, 0, .bool b), (w.heap.size, 1, .slice p n cap)] [w.heap.size + 1 + 1] (((w.alloc (.cells #[.bool b, .slice p n cap] 36)).alloc (.cells #[.bool b', .slice q m cap'] 36)).alloc (.cells #[.bool false, .slice none 0 0] 36)) := (((Kept.start w).box _ _ _ _ rfl).box _ _ _ _ (by simp)).res _ _ _ _ _ (by simp)
  have Vx := Lib.hid (show IntV w (.agg #[.bool b, .slice p n cap]) (sg b X) i from ⟨_, _, _, rfl, hx, rfl⟩)
  have Vy := Lib.hid (show IntV w (.agg #[.bool (!b'), .slice q m cap']) (- sg b' Y) j from ⟨_, _, _, rfl, hy, (sg_not _ _).symm⟩)
  clear hx hy Hx Hy
  rw [Int.sub_eq_add_neg]
  go_enter Try.func46, Try.ntmps46
  go_wp2_with fail
  refine (Add_i (Vx.out.grown (Kept.all _ _ S0)) (Vy.out.grown (Kept.all _ _ S0)) hi).mono ?_
  rintro e w' ⟨v, rfl, ho, bd, hg⟩
  obtain ⟨pv, nv, rfl, ho2⟩ := id ho
  clear ho2
  have S1 := S0
  replace S0 := Kept.grown _ _ S0 hg
  clear hg
  obtain ⟨c0, c1, c2, c3, r0, r1, r2, r3, G⟩ := id S0
  go_wp2_with fail
  exact end_made Try.results46 rfl rfl (set2_fst r0) (set2_snd r1) (Kept.all _ _ (Kept.set _ _ (by simp <;> omega) (by first | omega | (simp <;> omega)) S0)) ho S1.size (S1.lt (by simp)) bd

end Go.Proofs.Yteblgmjpociffaa

namespace Go.Proofs.Yteblgmjpociffaa
open Go.RowKit

theorem div_of {z y q r : Int} (hy : y ≠ 0) (he : z = y * q + r) (h0 : 0 ≤ r) (h1 : r < y.natAbs) : z / y = q ∧ z % y = r := by
  rcases Int.lt_or_gt_of_ne hy with h | h
  · have := (Int.ediv_emod_unique (a := z) (b := -y) (r := r) (q := -q) (by omega)).2 ⟨by rw [he, Int.neg_mul_neg]; omega, h0, by omega⟩
    rw [Int.ediv_neg, Int.emod_neg] at this
    omega
  · exact (Int.ediv_emod_unique (by omega)).2 ⟨by rw [he]; omega, h0, by omega⟩
theorem div_plain {b b' : Bool} {X Y : Nat} (hY : Y ≠ 0) (h : b = false ∨ X % Y = 0) : sg b X / sg b' Y = sg (b != b') (X / Y) ∧ sg b X % sg b' Y = ((X % Y : Nat) : Int) := by
  have e := Nat.div_add_mod X Y
  have l := Nat.mod_lt X (Nat.pos_of_ne_zero hY)
  refine div_of (by cases b' <;> simp [sg] <;> omega) ?_ (by omega) (by rw [sg_abs]; omega)
  have e2 : (X : Int) = (Y : Int) * ((X / Y : Nat) : Int) + ((X % Y : Nat) : Int) := by rw [← Int.natCast_mul]; omega
  rcases h with rfl | h
  · generalize ((X % Y : Nat) : Int) = r at *
    generalize X / Y = q at *
    cases b' <;> simp only [sg] <;> grind
  · have h' : ((X % Y : Nat) : Int) = 0 := by omega
    rw [h'] at e2 ⊢
    generalize X / Y = q at *
    cases b <;> cases b' <;> simp only [sg] <;> grind
theorem div_up {b' : Bool} {X Y : Nat} (hY : Y ≠ 0) (h : X % Y ≠ 0) : sg true X / sg b' Y = sg (true != b') (X / Y + 1) ∧ sg true X % sg b' Y = ((Y - X % Y : Nat) : Int) := by
  have e := Nat.div_add_mod X Y
  have l := Nat.mod_lt X (Nat.pos_of_ne_zero hY)
  refine div_of (by cases b' <;> simp [sg] <;> omega) ?_ (by omega) (by rw [sg_abs]; omega)
  have e2 : (X : Int) = (Y : Int) * ((X / Y : Nat) : Int) + ((X % Y : Nat) : Int) := by rw [← Int.natCast_mul]; omega
  have e3 : ((Y - X % Y : Nat) : Int) = (Y : Int) - ((X % Y : Nat) : Int) := by omega
  have e4 : ((X / Y + 1 : Nat) : Int) = ((X / Y : Nat) : Int) + 1 := by omega
  rw [e3]
  generalize ((X % Y : Nat) : Int) = r at *
  generalize X / Y = q at *
  cases b' <;> simp only [sg] <;> simp only [e4] <;> grind

/-- No number. -/
def ZI : Value := .agg #[.bool false, .slice none 0 0]
/-- What a division hands back. -/
def DivI (w : World) (q r : Int) (i j : Nat) (e : Ending) (w' : World) : Prop :=
  ∃ v u, e = .returned (.tuple #[v, u, .int .i64 0]) ∧ OwnI w' w.heap.size v q ∧ OwnI w' w.heap.size u r ∧ Bd q.natAbs i ∧ Bd r.natAbs j ∧ w.grownBy w' none
theorem post_div {fn : Func} {R : Ending → World → Prop} {a : Act} {w : World} {r g r' g' s : Nat} {x y x' y' v : Value} (hres : fn.results = #[ResultVar.cell r 36, ResultVar.cell r' 36, ResultVar.tmp s]) (hd : a.defers = [])
    (hr : a.tmps[r]? = some (.pointer (some ⟨g, 0, none⟩))) (hr' : a.tmps[r']? = some (.pointer (some ⟨g', 0, none⟩))) (hs : a.tmps[s]? = some v)
    (c0 : w.cell? ⟨g, 0, none⟩ = some x) (c1 : w.cell? ⟨g, 1, none⟩ = some y) (d0 : w.cell? ⟨g', 0, none⟩ = some x') (d1 : w.cell? ⟨g', 1, none⟩ = some y') (h : R (.returned (.tuple #[.agg #[x, y], .agg #[x', y'], v])) w) : bodyPost Try.prog fn R .ret a w := by
  simp [bodyPost, results, hres, hr, hr', hs, c0, c1, d0, d1, go_sem, h, hd]
theorem post_exact {fn : Func} {R : Ending → World → Prop} {a : Act} {w : World} {r g s : Nat} {x y v : Value} (hres : fn.results = #[ResultVar.cell r 36, ResultVar.tmp s]) (hd : a.defers = [])
    (hr : a.tmps[r]? = some (.pointer (some ⟨g, 0, none⟩))) (hs : a.tmps[s]? = some v)
    (c0 : w.cell? ⟨g, 0, none⟩ = some x) (c1 : w.cell? ⟨g, 1, none⟩ = some y) (h : R (.returned (.tuple #[.agg #[x, y], v])) w) : bodyPost Try.prog fn R .ret a w := by
  simp [bodyPost, results, hres, hr, hs, c0, c1, go_sem, h, hd]
/-- Two structs were stored, the second one into block g'. -/
theorem two_stored {W w : World} {g g' B B' cap cap' X Y i j n n' : Nat} {b b' : Bool} {p p' : Option Addr} (hn : (dig 4294967296 X).length = n) (hn' : (dig 4294967296 Y).length = n')
    (hx : Own w 73 .u32 B (.slice p n cap) (dig 4294967296 X)) (hy : Own w 73 .u32 B' (.slice p' n' cap') (dig 4294967296 Y))
    (hB : W.heap.size ≤ B) (hB' : W.heap.size ≤ B') (h1 : g < B) (h2 : g' < B) (h3 : g < B') (h4 : g' < B') {q r : Int} (hq : q = sg b X) (hr : r = sg b' Y) (bx : Bd X i) (yb : Bd Y j)
    (hG : W.grownBy (set2 (set2 w g (.bool (b && decide (0 < n))) (.slice p n cap)) g' (.bool (b' && decide (0 < n'))) (.slice p' n' cap')) none) :
    DivI W q r i j (.returned (.tuple #[.agg #[.bool (b && decide (0 < n)), .slice p n cap], .agg #[.bool (b' && decide (0 < n')), .slice p' n' cap'], .int .i64 0]))
      (set2 (set2 w g (.bool (b && decide (0 < n))) (.slice p n cap)) g' (.bool (b' && decide (0 < n'))) (.slice p' n' cap')) := by
  subst hq hr hn hn'
  refine ⟨_, _, rfl, ⟨p, cap, ?_, ?_⟩, ⟨p', cap', ?_, ?_⟩, by rw [sg_abs]; exact bx, by rw [sg_abs]; exact yb, hG⟩
  · rw [sg_neg, sg_abs, dig_some _ _ (by omega)]
  · rw [sg_abs]
    exact (((hx.mono hB).grown (set2_grown _ _ _ _) (own_ne hx h1)).grown (set2_grown _ _ _ _) (own_ne hx h2))
  · rw [sg_neg, sg_abs, dig_some _ _ (by omega)]
  · rw [sg_abs]
    exact (((hy.mono hB').grown (set2_grown _ _ _ _) (own_ne hy h3)).grown (set2_grown _ _ _ _) (own_ne hy h4))

end Go.Proofs.Yteblgmjpociffaa

namespace Go.Proofs.Yteblgmjpociffaa
open Go.RowKit

theorem DivI.of {w w' : World} {q r q' r' : Int} {i j i' j' : Nat} {e : Ending} (h : DivI w q r i j e w') (h1 : q = q') (h2 : r = r') (hi : i ≤ i') (hj : j ≤ j') : DivI w q' r' i' j' e w' := by
  subst h1 h2
  obtain ⟨v, u, a1, a2, a3, a4, a5, a6⟩ := h
  exact ⟨v, u, a1, a2, a3, a4.more hi, a5.more hj, a6⟩
end Go.Proofs.Yteblgmjpociffaa

namespace Go.Proofs.Yteblgmjpociffaa
open Go.RowKit

theorem Num.two (w : World) (x y : Nat) (hx : x < 4294967296) (hy : y < 4294967296) : Num (w.alloc (.cells #[.int .u32 x, .int .u32 y] 73)) (.slice (some ⟨w.heap.size, 0, none⟩) 2 2) (x + 4294967296 * y) 2 := by
  refine ⟨[x, y], ⟨_, 2, rfl, Nat.le_refl _, by omega, .inr ⟨w.heap.size, 0, rfl, by simp, fun j hj => ?_⟩⟩, All.cons hx (All.cons hy (All.nil _)), by simp [val], Nat.le_refl _⟩
  have : j = 0 ∨ j = 1 := by simp at hj; omega
  rcases this with rfl | rfl <;> simp [go_sem, nth]
theorem limbsOf_n (X : Nat) (w : World) (hX : X < 18446744073709551616) : Calls Try.prog 82 #[.int .u64 X] w (MadeN w X 2) := by
  have h2 : X / 4294967296 < 4294967296 := by omega
  have e1 : ((X : Int) % 4294967296) = ((X % 4294967296 : Nat) : Int) := by omega
  have e2 : ((X : Int) / 4294967296) = ((X / 4294967296 : Nat) : Int) := by omega
  have hv : X % 4294967296 + 4294967296 * (X / 4294967296) = X := by omega
  generalize hA : X / 4294967296 = A at *
  generalize hB : X % 4294967296 = B at *
  go_enter Try.func82, Try.ntmps82
  go_wp2_with fail
  refine (Norm_n (Num.two w B A (by omega) (by omega)) (by omega)).mono ?_
  rintro e w' ⟨v, rfl, h, bd, hg⟩
  rw [hv] at h bd
  have G := grown_trans (grown_alloc w (.cells #[.int .u32 B, .int .u32 A] 73) none) hg
  have h' := h.mono (grown_alloc w (.cells #[.int .u32 B, .int .u32 A] 73) none).size
  clear hA hB e1 e2 h hg
  go_wp2_with fail
  go_ret
  exact ⟨v, rfl, h', bd, G⟩


set_option maxHeartbeats 1000000 in
theorem Of_pos (N : Nat) (w : World) (hN : N ≤ 9223372036854775807) : Calls Try.prog 55 #[.int .i64 (N : Int)] w (MadeI w ((N : Int)) 2) := by
  have S0 : Kept w [] [w.heap.size] (w.alloc (.cells #[.bool false, .slice none 0 0] 36)) := (Kept.start w).res _ _ _ _ _ rfl
  go_enter Try.func55, Try.ntmps55
  go_wp2_with fail
  have S1 := S0
  refine (limbsOf_n N _ (by omega)).mono ?_
  rintro e w1 ⟨v, rfl, h, bd, hg⟩
  obtain ⟨pv, nv, rfl⟩ := h.slice
  replace S0 := S0.grown _ _ hg
  clear hg
  go_wp2_with fail
  refine (signed_any _ _ _ _ _).mono ?_
  rintro e w2 ⟨rfl, hg⟩
  replace h := h.grown hg (.inl rfl)
  replace S0 := S0.grown _ _ hg
  clear hg
  obtain ⟨r0, r1, f0, f1, G⟩ := id S0
  go_wp2_with fail
  exact end_signed (b := false) Try.results55 rfl rfl (set2_fst r0) (set2_snd r1) (Kept.all _ _ (Kept.set _ _ (by simp) (Nat.le_refl _) S0)) h S1.size (S1.lt (by simp)) rfl bd
set_option maxHeartbeats 1000000 in
theorem Of_neg (N : Nat) (w : World) (hN : N ≤ 9223372036854775808) (h0 : 0 < N) : Calls Try.prog 55 #[.int .i64 (-(N : Int))] w (MadeI w ((-(N : Int))) 2) := by
  have S0 : Kept w [] [w.heap.size] (w.alloc (.cells #[.bool false, .slice none 0 0] 36)) := (Kept.start w).res _ _ _ _ _ rfl
  have E := Lib.hid (show IntKind.u64.wrap (-IntKind.u64.wrap (-(N : Int))) = N by rw [IntKind.wrap_u64, IntKind.wrap_u64]; omega)
  go_enter Try.func55, Try.ntmps55
  go_wp2_with fail
  rw [E.out]
  have S1 := S0
  refine (limbsOf_n N _ (by omega)).mono ?_
  rintro e w1 ⟨v, rfl, h, bd, hg⟩
  obtain ⟨pv, nv, rfl⟩ := h.slice
  replace S0 := S0.grown _ _ hg
  clear hg
  go_wp2_with fail
  refine (signed_any _ _ _ _ _).mono ?_
  rintro e w2 ⟨rfl, hg⟩
  replace h := h.grown hg (.inl rfl)
  replace S0 := S0.grown _ _ hg
  clear hg
  obtain ⟨r0, r1, f0, f1, G⟩ := id S0
  go_wp2_with fail
  exact end_signed (b := true) Try.results55 rfl rfl (set2_fst r0) (set2_snd r1) (Kept.all _ _ (Kept.set _ _ (by simp) (Nat.le_refl _) S0)) h S1.size (S1.lt (by simp)) rfl bd
theorem Of_i (z : Int) (w : World) (h1 : -9223372036854775808 ≤ z) (h2 : z ≤ 9223372036854775807) : Calls Try.prog 55 #[.int .i64 z] w (MadeI w z 2) := by
  rcases Int.lt_or_le z 0 with h | h
  · obtain ⟨N, rfl⟩ : ∃ N : Nat, z = -(N : Int) := ⟨z.natAbs, by omega⟩
    exact Of_neg N w (by omega) (by omega)
  · obtain ⟨N, rfl⟩ : ∃ N : Nat, z = (N : Int) := ⟨z.natAbs, by omega⟩
    exact Of_pos N w (by omega)

/-- The number that the lowest two limbs make. -/
def lowN (xs : List Nat) (n k : Nat) : Nat := val 4294967296 ((xs.take n).drop k)
theorem lowN_step {xs : List Nat} {n k : Nat} (hn : n ≤ xs.length) (hk : k < n) : lowN xs n k = nth xs k + 4294967296 * lowN xs n (k + 1) := by
  unfold lowN
  rw [val_drop_step _ _ (by rw [List.length_take]; omega), nth_take _ hk]
theorem lowN_end (xs : List Nat) {n : Nat} : lowN xs n n = 0 := by
  unfold lowN
  rw [List.drop_of_length_le (by rw [List.length_take]; omega)]
  rfl
theorem lowN_lt {xs : List Nat} (a : All 4294967296 xs) {n k : Nat} (hn : n ≤ 2) (hk : 1 ≤ k) : lowN xs n k < 4294967296 := by
  have := val_lt ((a.take n).drop k)
  have hl : ((xs.take n).drop k).length ≤ 1 := by rw [List.length_drop, List.length_take]; omega
  exact Nat.lt_of_lt_of_le this (Nat.le_trans (Nat.pow_le_pow_right (by omega) hl) (by omega))
theorem lowN_all {xs : List Nat} {n : Nat} (hn : min xs.length 2 = n) (h : val 4294967296 xs < 18446744073709551616) : lowN xs n 0 = val 4294967296 xs := by
  unfold lowN
  rw [List.drop_zero]
  have e := val_take_drop 4294967296 xs (k := n) (by omega)
  by_cases h2 : xs.length ≤ n
  · rw [List.take_of_length_le h2]
  · obtain rfl : n = 2 := by omega
    have : val 4294967296 (xs.drop 2) = 0 := by
      rcases Nat.eq_zero_or_pos (val 4294967296 (xs.drop 2)) with h0 | h0
      · exact h0
      · have : 4294967296 ^ 2 * 1 ≤ 4294967296 ^ 2 * val 4294967296 (xs.drop 2) := Nat.mul_le_mul_left _ h0
        omega
    rw [this] at e
    omega
theorem bits_few {X : Nat} (h : X < 4611686018427387904) : (dig 2 X).length ≤ 62 := dig_len_le (by omega) 62 X h
theorem bits_many {X : Nat} (h : 4611686018427387904 ≤ X) : 62 < (dig 2 X).length := by
  rcases Nat.lt_or_ge 62 (dig 2 X).length with h1 | h1
  · exact h1
  · have := dig_lt_pow (b := 2) (by omega) X
    have := Nat.pow_le_pow_right (n := 2) (by omega) h1
    omega
end Go.Proofs.Yteblgmjpociffaa
