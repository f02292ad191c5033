/- Layer 2's examples. The boxes of a law: what each of them holds, and that it may be written. Zero and Sign of normal numbers. Cells of boxes of any size: what they hold, which may be written. A whole number that came in: a sign and a slice of limbs. -/
import Derived.Test.YteblgmjpociffaaRefL
import Derived.Test.YteblgmjpociffaaIntA
import Derived.Test.YteblgmjpociffaaRowKit
import Derived.Lib.SmallJoins
namespace Go.Proofs.Yteblgmjpociffaa
open Go.RowKit

theorem of_m4 (w : World) : Calls Try.prog 28 #[.int .i64 (-4)] w (MadeR w (-4) 2) := Of_r (-4) w (by omega) (by omega)
theorem of_1 (w : World) : Calls Try.prog 28 #[.int .i64 1] w (MadeR w 1 2) := Of_r 1 w (by omega) (by omega)
theorem k2 : 2 ≤ 1000000 := by omega
end Go.Proofs.Yteblgmjpociffaa

namespace Go.Proofs.Yteblgmjpociffaa
open Go.RowKit

/-- What a box holds. -/
def Cell4 (w : World) (b : Nat × Value × Value) : Prop := w.cell? ⟨b.1, 0, none⟩ = some b.2.1 ∧ w.cell? ⟨b.1, 1, none⟩ = some b.2.2 ∧ w.frozen? ⟨b.1, 0, none⟩ = false ∧ w.frozen? ⟨b.1, 1, none⟩ = false
/-- What the boxes bs hold; W is an older world. -/
def Bx (W : World) : List (Nat × Value × Value) → World → Prop
  | [], w => W.grownBy w none
  | (g, x, y) :: bs, w => w.cell? ⟨g, 0, none⟩ = some x ∧ w.cell? ⟨g, 1, none⟩ = some y ∧ w.frozen? ⟨g, 0, none⟩ = false ∧ w.frozen? ⟨g, 1, none⟩ = false ∧ Bx W bs w
theorem Bx.iff {W w : World} : ∀ {bs : List (Nat × Value × Value)}, Bx W bs w ↔ (∀ b, b ∈ bs → Cell4 w b) ∧ W.grownBy w none
  | [] => by simp [Bx]
  | (g, x, y) :: bs => by
    have ih := Bx.iff (W := W) (w := w) (bs := bs)
    simp only [Bx, ih, List.mem_cons, forall_eq_or_imp, Cell4]
    constructor
    · rintro ⟨h1, h2, h3, h4, h5, h6⟩
      exact ⟨⟨⟨h1, h2, h3, h4⟩, h5⟩, h6⟩
    · rintro ⟨⟨⟨h1, h2, h3, h4⟩, h5⟩, h6⟩
      exact ⟨h1, h2, h3, h4, h5, h6⟩
theorem Cell4.grown {w w' : World} {b : Nat × Value × Value} (h : Cell4 w b) (g : w.grownBy w' none) : Cell4 w' b :=
  ⟨cell_grown g h.1, cell_grown g h.2.1, frozen_grown g h.1 h.2.2.1, frozen_grown g h.2.1 h.2.2.2⟩
theorem Bx.step {W w w' : World} (bs : List (Nat × Value × Value)) (g : w.grownBy w' none) (h : Bx W bs w) : Bx W bs w' := by
  rw [Bx.iff] at h ⊢
  exact ⟨fun b hb => (h.1 b hb).grown g, grown_trans h.2 g⟩
theorem Bx.all {W w : World} {bs : List (Nat × Value × Value)} (h : Bx W bs w) : W.grownBy w none := (Bx.iff.1 h).2
theorem Bx.start (w : World) : Bx w [] w := grown_refl w none
theorem Bx.base {W W' w : World} {bs : List (Nat × Value × Value)} (h : Bx W bs w) (g : W'.grownBy w none) : Bx W' bs w := Bx.iff.2 ⟨(Bx.iff.1 h).1, g⟩
theorem Bx.sub {W w : World} {bs bs' : List (Nat × Value × Value)} (h : Bx W bs w) (hs : ∀ b, b ∈ bs' → b ∈ bs) : Bx W bs' w := by
  rw [Bx.iff] at h ⊢
  exact ⟨fun b hb => h.1 b (hs b hb), h.2⟩
theorem Bx.box {W w : World} {bs : List (Nat × Value × Value)} (g : Nat) (x y : Value) (t : TypeId) (h : Bx W bs w) (hg : w.heap.size = g) : Bx W ((g, x, y) :: bs) (w.alloc (.cells #[x, y] t)) := by
  subst hg
  exact ⟨by simp [go_sem], by simp [go_sem], frozen_new _ _ _ _ (frozen_out (Nat.le_refl _)), frozen_new _ _ _ _ (frozen_out (Nat.le_refl _)), Bx.step _ (grown_alloc _ _ _) h⟩
theorem Bx.lt {W w : World} {bs : List (Nat × Value × Value)} (h : Bx W bs w) {g : Nat} {x y : Value} (hm : (g, x, y) ∈ bs) : g < w.heap.size := cell_lt ((Bx.iff.1 h).1 _ hm).1
/-- A struct was stored into the box g. -/
theorem Bx.put {W w : World} {bs bs' : List (Nat × Value × Value)} {g : Nat} {u v x y : Value} (h : Bx W bs w) (hm : (g, x, y) ∈ bs) (hs : ∀ b, b ∈ bs' → b ∈ bs) (hn : ∀ b, b ∈ bs' → b.1 ≠ g) (hW : W.heap.size ≤ g) :
    Bx W ((g, u, v) :: bs') (set2 w g u v) := by
  have h0 := (Bx.iff.1 h).1 _ hm
  have h1 := (Bx.iff.1 h).1
  refine ⟨set2_fst h0.1, set2_snd h0.2.1, set2_frozen h0.2.2.1, set2_frozen h0.2.2.2, Bx.iff.2 ⟨fun b hb => ?_, grown_new h.all (set2_grown _ _ _ _) hW⟩⟩
  have := h1 b (hs b hb)
  exact ⟨set2_far this.1 (hn b hb), set2_far this.2.1 (hn b hb), set2_frozen this.2.2.1, set2_frozen this.2.2.2⟩

/-- What was a number in memory is that number still. -/
def Kp (w w' : World) : Prop := w.heap.size ≤ w'.heap.size ∧ ∀ (a : Addr) (k : IntKind) (n : Int), w.cell? a = some (.int k n) → w'.cell? a = some (.int k n)
theorem Kp.refl (w : World) : Kp w w := ⟨Nat.le_refl _, fun _ _ _ h => h⟩
theorem Kp.trans {a b c : World} (h : Kp a b) (k : Kp b c) : Kp a c := ⟨Nat.le_trans h.1 k.1, fun x y z e => k.2 x y z (h.2 x y z e)⟩
theorem Kp.of {w w' : World} (g : w.grownBy w' none) : Kp w w' := ⟨g.size, fun _ _ _ h => cell_grown g h⟩
theorem Kp.set2 {w : World} {g : Nat} {x y u v : Value} (h0 : w.cell? ⟨g, 0, none⟩ = some x) (h1 : w.cell? ⟨g, 1, none⟩ = some y) (n0 : ∀ k n, x ≠ .int k n) (n1 : ∀ k n, y ≠ .int k n) : Kp w (set2 w g u v) := by
  refine ⟨by simp [Proofs.Yteblgmjpociffaa.set2], fun a k n h => ?_⟩
  have e0 : (⟨g, 0, none⟩ : Addr) ≠ a := by rintro rfl; rw [h0] at h; exact n0 k n (Option.some.inj h)
  have e1 : (⟨g, 1, none⟩ : Addr) ≠ a := by rintro rfl; rw [h1] at h; exact n1 k n (Option.some.inj h)
  unfold Proofs.Yteblgmjpociffaa.set2
  rw [World.cell?_setCell_other _ _ _ _ e1, World.cell?_setCell_other _ _ _ _ e0]
  exact h
/-- A store into a box leaves the numbers as they are. -/
theorem Bx.kp {W w : World} {bs : List (Nat × Value × Value)} {g : Nat} {x y : Value} (u v : Value) (h : Bx W bs w) (hm : (g, x, y) ∈ bs) (n0 : ∀ k n, x ≠ .int k n) (n1 : ∀ k n, y ≠ .int k n) : Kp w (set2 w g u v) :=
  Kp.set2 ((Bx.iff.1 h).1 _ hm).1 ((Bx.iff.1 h).1 _ hm).2.1 n0 n1
theorem Sl.kp {w w' : World} {k : IntKind} {v : Value} {xs : List Nat} (h : Sl w k v xs) (g : Kp w w') : Sl w' k v xs := by
  obtain ⟨p, cap, rfl, h1, h2, h3⟩ := h
  refine ⟨p, cap, rfl, h1, h2, ?_⟩
  rcases h3 with h3 | ⟨b, off, rfl, h4, h5⟩
  · exact .inl h3
  · exact .inr ⟨b, off, rfl, Nat.lt_of_lt_of_le h4 g.1, fun j hj => g.2 _ _ _ (h5 j hj)⟩
theorem Num.kp {w w' : World} {v : Value} {X k : Nat} (h : Num w v X k) (g : Kp w w') : Num w' v X k := by
  obtain ⟨xs, h1, h2⟩ := h
  exact ⟨xs, h1.kp g, h2⟩
theorem IntV.kp {w w' : World} {v : Value} {z : Int} {k : Nat} (h : IntV w v z k) (g : Kp w w') : IntV w' v z k := by
  obtain ⟨b, s, X, h1, h2, h3⟩ := h
  exact ⟨b, s, X, h1, h2.kp g, h3⟩
theorem NorI.kp {w w' : World} {v : Value} {z : Int} (h : NorI w v z) (g : Kp w w') : NorI w' v z := by
  obtain ⟨p, cap, h1, h2⟩ := h
  exact ⟨p, cap, h1, h2.kp g⟩
theorem DecI.kp {w w' : World} {v : Value} {z : Int} {k : Nat} (h : DecI w v z k) (g : Kp w w') : DecI w' v z k := by
  obtain ⟨p, cap, h1, h2, h3⟩ := h
  exact ⟨p, cap, h1, h2.kp g, h3⟩

end Go.Proofs.Yteblgmjpociffaa

namespace Go.Proofs.Yteblgmjpociffaa
open Go.RowKit
theorem cmpI_bd (z y : Int) : -1 ≤ cmpI z y ∧ cmpI z y ≤ 1 := by
  unfold cmpI
  split
  · omega
  · split <;> omega
theorem cmpI_swap (z y : Int) : cmpI y z = -cmpI z y := by
  unfold cmpI
  split <;> split <;> (try split) <;> (try split) <;> omega

end Go.Proofs.Yteblgmjpociffaa

namespace Go.Proofs.Yteblgmjpociffaa
open Go.RowKit

/-- What the cells cs hold, and that the cells fs may be written; W is an older world. -/
def StF (W : World) : List (Nat × Nat) → World → Prop
  | [], w => W.grownBy w none
  | (g, o) :: fs, w => w.cell? ⟨g, o, none⟩ = some (cellOf w ⟨g, o, none⟩) ∧ w.frozen? ⟨g, o, none⟩ = false ∧ StF W fs w
def St (W : World) : List (Nat × Nat × Value) → List (Nat × Nat) → World → Prop
  | [], fs, w => StF W fs w
  | (g, o, x) :: cs, fs, w => w.cell? ⟨g, o, none⟩ = some x ∧ St W cs fs w
theorem StF.iff {W w : World} : ∀ {fs : List (Nat × Nat)}, StF W fs w ↔ (∀ f, f ∈ fs → w.cell? ⟨f.1, f.2, none⟩ = some (cellOf w ⟨f.1, f.2, none⟩) ∧ w.frozen? ⟨f.1, f.2, none⟩ = false) ∧ W.grownBy w none
  | [] => by simp [StF]
  | (g, o) :: fs => by
    have ih := StF.iff (W := W) (w := w) (fs := fs)
    simp only [StF, ih, List.mem_cons, forall_eq_or_imp]
    exact ⟨fun ⟨a, b, c, d⟩ => ⟨⟨⟨a, b⟩, c⟩, d⟩, fun ⟨⟨⟨a, b⟩, c⟩, d⟩ => ⟨a, b, c, d⟩⟩
theorem St.iff {W w : World} {fs : List (Nat × Nat)} : ∀ {cs : List (Nat × Nat × Value)}, St W cs fs w ↔ (∀ c, c ∈ cs → w.cell? ⟨c.1, c.2.1, none⟩ = some c.2.2) ∧ StF W fs w
  | [] => by simp [St]
  | (g, o, x) :: cs => by
    have ih := St.iff (W := W) (w := w) (cs := cs) (fs := fs)
    simp only [St, ih, List.mem_cons, forall_eq_or_imp]
    exact ⟨fun ⟨a, b, c⟩ => ⟨⟨a, b⟩, c⟩, fun ⟨⟨a, b⟩, c⟩ => ⟨a, b, c⟩⟩
theorem StF.step {W w w' : World} {fs : List (Nat × Nat)} (g : w.grownBy w' none) (h : StF W fs w) : StF W fs w' := by
  rw [StF.iff] at h ⊢
  exact ⟨fun f hf => ⟨has_of (cell_grown g (h.1 f hf).1), frozen_grown g (h.1 f hf).1 (h.1 f hf).2⟩, grown_trans h.2 g⟩
theorem St.step {W w w' : World} {cs : List (Nat × Nat × Value)} {fs : List (Nat × Nat)} (h : St W cs fs w) (g : w.grownBy w' none) : St W cs fs w' := by
  rw [St.iff] at h ⊢
  exact ⟨fun c hc => cell_grown g (h.1 c hc), h.2.step g⟩
theorem St.keep {W w w' : World} (cs : List (Nat × Nat × Value)) (fs : List (Nat × Nat)) (g : w.grownBy w' none) (h : St W cs fs w) : St W cs fs w' := h.step g
theorem St.sub {W w : World} {cs cs' : List (Nat × Nat × Value)} {fs fs' : List (Nat × Nat)} (h : St W cs fs w) (hc : ∀ c, c ∈ cs' → c ∈ cs) (hf : ∀ f, f ∈ fs' → f ∈ fs) : St W cs' fs' w := by
  rw [St.iff, StF.iff] at h ⊢
  exact ⟨fun c m => h.1 c (hc c m), fun f m => h.2.1 f (hf f m), h.2.2⟩
theorem St.all {W w : World} {cs : List (Nat × Nat × Value)} {fs : List (Nat × Nat)} (h : St W cs fs w) : W.grownBy w none := (StF.iff.1 (St.iff.1 h).2).2
theorem St.base {W W' w : World} {cs : List (Nat × Nat × Value)} {fs : List (Nat × Nat)} (h : St W cs fs w) (g : W'.grownBy w none) : St W' cs fs w := by
  rw [St.iff, StF.iff] at h ⊢
  exact ⟨h.1, h.2.1, g⟩
theorem St.size {W w : World} {cs : List (Nat × Nat × Value)} {fs : List (Nat × Nat)} (h : St W cs fs w) : W.heap.size ≤ w.heap.size := h.all.size
theorem St.start (w : World) : St w [] [] w := grown_refl w none
theorem St.cell {W w : World} {cs : List (Nat × Nat × Value)} {fs : List (Nat × Nat)} {g o : Nat} {x : Value} (h : St W cs fs w) (hm : (g, o, x) ∈ cs) : w.cell? ⟨g, o, none⟩ = some x := (St.iff.1 h).1 _ hm
theorem St.has {W w : World} {cs : List (Nat × Nat × Value)} {fs : List (Nat × Nat)} {g o : Nat} (h : St W cs fs w) (hm : (g, o) ∈ fs) : w.cell? ⟨g, o, none⟩ = some (cellOf w ⟨g, o, none⟩) := ((StF.iff.1 (St.iff.1 h).2).1 _ hm).1
theorem St.free {W w : World} {cs : List (Nat × Nat × Value)} {fs : List (Nat × Nat)} {g o : Nat} (h : St W cs fs w) (hm : (g, o) ∈ fs) : w.frozen? ⟨g, o, none⟩ = false := ((StF.iff.1 (St.iff.1 h).2).1 _ hm).2
theorem St.lt {W w : World} {cs : List (Nat × Nat × Value)} {fs : List (Nat × Nat)} {g o : Nat} (h : St W cs fs w) (hm : (g, o) ∈ fs) : g < w.heap.size := cell_lt (h.has hm)
theorem St.ltc {W w : World} {cs : List (Nat × Nat × Value)} {fs : List (Nat × Nat)} {g o : Nat} {x : Value} (h : St W cs fs w) (hm : (g, o, x) ∈ cs) : g < w.heap.size := cell_lt (h.cell hm)
/-- The cells of a box. -/
def rows (g : Nat) : Nat → List Value → List (Nat × Nat × Value)
  | _, [] => []
  | o, v :: vs => (g, o, v) :: rows g (o + 1) vs
def spots (g : Nat) : Nat → List Value → List (Nat × Nat)
  | _, [] => []
  | o, _ :: vs => (g, o) :: spots g (o + 1) vs
theorem rows_mem {g : Nat} : ∀ {vs : List Value} {o : Nat} {c : Nat × Nat × Value}, c ∈ rows g o vs → ∃ j, c.1 = g ∧ c.2.1 = o + j ∧ vs[j]? = some c.2.2
  | [], _, _, h => by cases h
  | v :: vs, o, c, h => by
    rcases List.mem_cons.1 h with rfl | h
    · exact ⟨0, rfl, rfl, rfl⟩
    · obtain ⟨j, h1, h2, h3⟩ := rows_mem h
      exact ⟨j + 1, h1, by omega, h3⟩
theorem spots_mem {g : Nat} : ∀ {vs : List Value} {o : Nat} {f : Nat × Nat}, f ∈ spots g o vs → ∃ j v, f.1 = g ∧ f.2 = o + j ∧ vs[j]? = some v
  | [], _, _, h => by cases h
  | v :: vs, o, c, h => by
    rcases List.mem_cons.1 h with rfl | h
    · exact ⟨0, v, rfl, rfl, rfl⟩
    · obtain ⟨j, v, h1, h2, h3⟩ := spots_mem h
      exact ⟨j + 1, v, h1, by omega, h3⟩
theorem cell_new (w : World) (vs : List Value) (t : TypeId) {j : Nat} {v : Value} (h : vs[j]? = some v) : (w.alloc (.cells vs.toArray t)).cell? ⟨w.heap.size, 0 + j, none⟩ = some v := by
  simp only [World.cell?, heap_alloc_new, Nat.zero_add]
  simpa using h
/-- A box was made: it can be read. -/
theorem St.box {W w : World} {cs : List (Nat × Nat × Value)} {fs : List (Nat × Nat)} (g : Nat) (vs : List Value) (t : TypeId) (h : St W cs fs w) (hg : w.heap.size = g) : St W (rows g 0 vs ++ cs) fs (w.alloc (.cells vs.toArray t)) := by
  subst hg
  have h' := h.step (grown_alloc w (.cells vs.toArray t) none)
  rw [St.iff] at h' ⊢
  refine ⟨fun c hc => ?_, h'.2⟩
  rcases List.mem_append.1 hc with hc | hc
  · obtain ⟨j, h1, h2, h3⟩ := rows_mem hc
    rw [h1, h2]
    exact cell_new w vs t h3
  · exact h'.1 c hc
/-- A box was made: it can be written. -/
theorem St.room {W w : World} {cs : List (Nat × Nat × Value)} {fs : List (Nat × Nat)} (g : Nat) (vs : List Value) (t : TypeId) (h : St W cs fs w) (hg : w.heap.size = g) : St W cs (spots g 0 vs ++ fs) (w.alloc (.cells vs.toArray t)) := by
  subst hg
  have h' := h.step (grown_alloc w (.cells vs.toArray t) none)
  rw [St.iff, StF.iff] at h' ⊢
  refine ⟨h'.1, fun f hf => ?_, h'.2.2⟩
  rcases List.mem_append.1 hf with hf | hf
  · obtain ⟨j, v, h1, h2, h3⟩ := spots_mem hf
    rw [h1, h2]
    exact ⟨has_of (cell_new w vs t h3), frozen_new _ _ _ _ (frozen_out (Nat.le_refl _))⟩
  · exact h'.2.1 f hf
/-- A box was made: it can be read and written. -/
theorem St.made {W w : World} {cs : List (Nat × Nat × Value)} {fs : List (Nat × Nat)} (g : Nat) (vs : List Value) (t : TypeId) (h : St W cs fs w) (hg : w.heap.size = g) : St W (rows g 0 vs ++ cs) (spots g 0 vs ++ fs) (w.alloc (.cells vs.toArray t)) := by
  have h1 := St.iff.1 (h.box g vs t hg)
  have h2 := St.iff.1 (h.room g vs t hg)
  exact St.iff.2 ⟨h1.1, h2.2⟩
theorem setCell_has {w : World} {a b : Addr} {u : Value} (h : w.cell? b = some (cellOf w b)) : (w.setCell a u).cell? b = some (cellOf (w.setCell a u) b) := by
  by_cases e : a = b
  · subst e
    exact has_of (World.cell?_setCell_same' _ _ _ (by rw [h]; rfl))
  · exact has_of (by rw [World.cell?_setCell_other _ _ _ _ e]; exact h)
/-- A cell was written. -/
theorem St.set {W w : World} {cs cs' : List (Nat × Nat × Value)} {fs : List (Nat × Nat)} {g o : Nat} (u : Value) (h : St W cs fs w) (hf : (g, o) ∈ fs) (hs : ∀ c, c ∈ cs' → c ∈ cs ∧ ¬ (c.1 = g ∧ c.2.1 = o)) (hW : W.heap.size ≤ g) :
    St W ((g, o, u) :: cs') fs (w.setCell ⟨g, o, none⟩ u) := by
  have h1 := St.iff.1 h
  have h2 := StF.iff.1 h1.2
  rw [St.iff, StF.iff]
  refine ⟨fun c hc => ?_, fun f m => ⟨setCell_has (h2.1 f m).1, by rw [frozen_set]; exact (h2.1 f m).2⟩, grown_new h2.2 (grown_set _ _ _ _) hW⟩
  rcases List.mem_cons.1 hc with rfl | hc
  · exact World.cell?_setCell_same' _ _ _ (by rw [h.has hf]; rfl)
  · obtain ⟨m, hne⟩ := hs c hc
    rw [World.cell?_setCell_other _ _ _ _ (fun e => hne (by cases e; exact ⟨rfl, rfl⟩))]
    exact h1.1 c m
/-- A cell that held no number was written: numbers are as they were. -/
theorem Kp.set {w : World} {a : Addr} {x u : Value} (h0 : w.cell? a = some x) (n0 : ∀ k n, x ≠ .int k n) : Kp w (w.setCell a u) := by
  refine ⟨by simp, fun b k n h => ?_⟩
  have e : a ≠ b := by rintro rfl; rw [h0] at h; exact n0 k n (Option.some.inj h)
  rw [World.cell?_setCell_other _ _ _ _ e]
  exact h
theorem St.kp {W w : World} {cs : List (Nat × Nat × Value)} {fs : List (Nat × Nat)} {g o : Nat} {x : Value} (u : Value) (h : St W cs fs w) (hm : (g, o, x) ∈ cs) (n0 : ∀ k n, x ≠ .int k n) : Kp w (w.setCell ⟨g, o, none⟩ u) := Kp.set (h.cell hm) n0

/-- What some cells hold, and no more. -/
def Cl : List (Nat × Nat × Value) → World → Prop
  | [], _ => True
  | (g, o, x) :: cs, w => w.cell? ⟨g, o, none⟩ = some x ∧ Cl cs w
theorem Cl.iff {w : World} : ∀ {cs : List (Nat × Nat × Value)}, Cl cs w ↔ ∀ c, c ∈ cs → w.cell? ⟨c.1, c.2.1, none⟩ = some c.2.2
  | [] => by simp [Cl]
  | (g, o, x) :: cs => by
    have ih := Cl.iff (w := w) (cs := cs)
    simp only [Cl, ih, List.mem_cons, forall_eq_or_imp]
theorem Cl.step {w w' : World} {cs : List (Nat × Nat × Value)} (g : w.grownBy w' none) (h : Cl cs w) : Cl cs w' := Cl.iff.2 fun c hc => cell_grown g (Cl.iff.1 h c hc)
theorem Cl.set {w : World} {cs : List (Nat × Nat × Value)} {g o : Nat} {u : Value} (h : Cl cs w) (hn : ∀ c, c ∈ cs → ¬ c.1 = g) : Cl cs (w.setCell ⟨g, o, none⟩ u) :=
  Cl.iff.2 fun c hc => by rw [World.cell?_setCell_far _ _ _ _ (fun e => hn c hc e.symm)]; exact Cl.iff.1 h c hc
theorem St.cl {W w : World} {cs cs' : List (Nat × Nat × Value)} {fs : List (Nat × Nat)} (h : St W cs fs w) (hs : ∀ c, c ∈ cs' → c ∈ cs) : Cl cs' w := Cl.iff.2 fun c hc => (St.iff.1 h).1 c (hs c hc)

end Go.Proofs.Yteblgmjpociffaa

namespace Go.Proofs.Yteblgmjpociffaa
open Go.ChangeShapes Go.WideShapes Go.ChangeAt Go.RowKit

section
variable {H : Type} {enc : TypeId × Value → H}
set_option maxRecDepth 100000 in
theorem int_of_trod {W : World} {base base' : Nat} {held : Bool} {v : Value} {d : DataW H} {ps : List MemPlace}
    (h : DataW.Trod enc Try.prog W base (fun _ => true) held 36 v d ps) (hv : Value.okWide Try.prog W .any base' 36 v) : ∃ b s xs, v = .agg #[.bool b, s] ∧ Sl W .u32 s xs ∧ All 4294967296 xs := by
  obtain ⟨v0, v1, y0, y1, n, rfl, -, -, h0, h1⟩ := Joins.open_agg2 Try.underlying36 (by kernel_rfl) (by kernel_rfl) hv h
  obtain ⟨b, e0, -⟩ := DataW.trod_bool Try.underlying4 h0
  obtain rfl : v0 = .bool b := by simpa using e0
  obtain ⟨xs, h2, h3⟩ := sl_of_row (W := W) Try.underlying34 Try.underlying73 (by kernel_rfl) h1
  exact ⟨b, v1, xs, rfl, h2, h3⟩
end

end Go.Proofs.Yteblgmjpociffaa
