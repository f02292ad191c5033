/- The boxes of a law: what each of them holds, and that it may be written. -/
import Derived.Test.YtmmmpdpgkjcohaaWakes2
namespace Go.Proofs.Ytmmmpdpgkjcohaa
open Go.RowKit

/-- What a box holds. -/
def Cell4 (w : World) (b : Nat × Value × Value) : Prop := w.cell? ⟨b.1, 0, none⟩ = some b.2.1 ∧ w.cell? ⟨b.1, 1, none⟩ = some b.2.2 ∧ w.frozen? ⟨b.1, 0, none⟩ = false ∧ w.frozen? ⟨b.1, 1, none⟩ = false
/-- What the boxes bs hold; W is an older world. -/
def Bx (W : World) : List (Nat × Value × Value) → World → Prop
  | [], w => W.grownBy w none
  | (g, x, y) :: bs, w => w.cell? ⟨g, 0, none⟩ = some x ∧ w.cell? ⟨g, 1, none⟩ = some y ∧ w.frozen? ⟨g, 0, none⟩ = false ∧ w.frozen? ⟨g, 1, none⟩ = false ∧ Bx W bs w
theorem Bx.iff {W w : World} : ∀ {bs : List (Nat × Value × Value)}, Bx W bs w ↔ (∀ b, b ∈ bs → Cell4 w b) ∧ W.grownBy w none
  | [] => by simp [Bx]
  | (g, x, y) :: bs => by
    have ih := Bx.iff (W := W) (w := w) (bs := bs)
    simp only [Bx, ih, List.mem_cons, forall_eq_or_imp, Cell4]
    constructor
    · rintro ⟨h1, h2, h3, h4, h5, h6⟩
      exact ⟨⟨⟨h1, h2, h3, h4⟩, h5⟩, h6⟩
    · rintro ⟨⟨⟨h1, h2, h3, h4⟩, h5⟩, h6⟩
      exact ⟨h1, h2, h3, h4, h5, h6⟩
theorem Cell4.grown {w w' : World} {b : Nat × Value × Value} (h : Cell4 w b) (g : w.grownBy w' none) : Cell4 w' b :=
  ⟨cell_grown g h.1, cell_grown g h.2.1, frozen_grown g h.1 h.2.2.1, frozen_grown g h.2.1 h.2.2.2⟩
theorem Bx.step {W w w' : World} (bs : List (Nat × Value × Value)) (g : w.grownBy w' none) (h : Bx W bs w) : Bx W bs w' := by
  rw [Bx.iff] at h ⊢
  exact ⟨fun b hb => (h.1 b hb).grown g, grown_trans h.2 g⟩
theorem Bx.all {W w : World} {bs : List (Nat × Value × Value)} (h : Bx W bs w) : W.grownBy w none := (Bx.iff.1 h).2
theorem Bx.start (w : World) : Bx w [] w := grown_refl w none
theorem Bx.base {W W' w : World} {bs : List (Nat × Value × Value)} (h : Bx W bs w) (g : W'.grownBy w none) : Bx W' bs w := Bx.iff.2 ⟨(Bx.iff.1 h).1, g⟩
theorem Bx.sub {W w : World} {bs bs' : List (Nat × Value × Value)} (h : Bx W bs w) (hs : ∀ b, b ∈ bs' → b ∈ bs) : Bx W bs' w := by
  rw [Bx.iff] at h ⊢
  exact ⟨fun b hb => h.1 b (hs b hb), h.2⟩
theorem Bx.box {W w : World} {bs : List (Nat × Value × Value)} (g : Nat) (x y : Value) (t : TypeId) (h : Bx W bs w) (hg : w.heap.size = g) : Bx W ((g, x, y) :: bs) (w.alloc (.cells #[x, y] t)) := by
  subst hg
  exact ⟨by simp [go_sem], by simp [go_sem], frozen_new _ _ _ _ (frozen_out (Nat.le_refl _)), frozen_new _ _ _ _ (frozen_out (Nat.le_refl _)), Bx.step _ (grown_alloc _ _ _) h⟩
theorem Bx.lt {W w : World} {bs : List (Nat × Value × Value)} (h : Bx W bs w) {g : Nat} {x y : Value} (hm : (g, x, y) ∈ bs) : g < w.heap.size := cell_lt ((Bx.iff.1 h).1 _ hm).1
/-- A struct was stored into the box g. -/
theorem Bx.put {W w : World} {bs bs' : List (Nat × Value × Value)} {g : Nat} {u v x y : Value} (h : Bx W bs w) (hm : (g, x, y) ∈ bs) (hs : ∀ b, b ∈ bs' → b ∈ bs) (hn : ∀ b, b ∈ bs' → b.1 ≠ g) (hW : W.heap.size ≤ g) :
    Bx W ((g, u, v) :: bs') (set2 w g u v) := by
  have h0 := (Bx.iff.1 h).1 _ hm
  have h1 := (Bx.iff.1 h).1
  refine ⟨set2_fst h0.1, set2_snd h0.2.1, set2_frozen h0.2.2.1, set2_frozen h0.2.2.2, Bx.iff.2 ⟨fun b hb => ?_, grown_new h.all (set2_grown _ _ _ _) hW⟩⟩
  have := h1 b (hs b hb)
  exact ⟨set2_far this.1 (hn b hb), set2_far this.2.1 (hn b hb), set2_frozen this.2.2.1, set2_frozen this.2.2.2⟩

/-- What was a number in memory is that number still. -/
def Kp (w w' : World) : Prop := w.heap.size ≤ w'.heap.size ∧ ∀ (a : Addr) (k : IntKind) (n : Int), w.cell? a = some (.int k n) → w'.cell? a = some (.int k n)
theorem Kp.refl (w : World) : Kp w w := ⟨Nat.le_refl _, fun _ _ _ h => h⟩
theorem Kp.trans {a b c : World} (h : Kp a b) (k : Kp b c) : Kp a c := ⟨Nat.le_trans h.1 k.1, fun x y z e => k.2 x y z (h.2 x y z e)⟩
theorem Kp.of {w w' : World} (g : w.grownBy w' none) : Kp w w' := ⟨g.size, fun _ _ _ h => cell_grown g h⟩
theorem Kp.set2 {w : World} {g : Nat} {x y u v : Value} (h0 : w.cell? ⟨g, 0, none⟩ = some x) (h1 : w.cell? ⟨g, 1, none⟩ = some y) (n0 : ∀ k n, x ≠ .int k n) (n1 : ∀ k n, y ≠ .int k n) : Kp w (set2 w g u v) := by
  refine ⟨by simp [Proofs.Ytmmmpdpgkjcohaa.set2], fun a k n h => ?_⟩
  have e0 : (⟨g, 0, none⟩ : Addr) ≠ a := by rintro rfl; rw [h0] at h; exact n0 k n (Option.some.inj h)
  have e1 : (⟨g, 1, none⟩ : Addr) ≠ a := by rintro rfl; rw [h1] at h; exact n1 k n (Option.some.inj h)
  unfold Proofs.Ytmmmpdpgkjcohaa.set2
  rw [World.cell?_setCell_other _ _ _ _ e1, World.cell?_setCell_other _ _ _ _ e0]
  exact h
/-- A store into a box leaves the numbers as they are. -/
theorem Bx.kp {W w : World} {bs : List (Nat × Value × Value)} {g : Nat} {x y : Value} (u v : Value) (h : Bx W bs w) (hm : (g, x, y) ∈ bs) (n0 : ∀ k n, x ≠ .int k n) (n1 : ∀ k n, y ≠ .int k n) : Kp w (set2 w g u v) :=
  Kp.set2 ((Bx.iff.1 h).1 _ hm).1 ((Bx.iff.1 h).1 _ hm).2.1 n0 n1
theorem Sl.kp {w w' : World} {k : IntKind} {v : Value} {xs : List Nat} (h : Sl w k v xs) (g : Kp w w') : Sl w' k v xs := by
  obtain ⟨p, cap, rfl, h1, h2, h3⟩ := h
  refine ⟨p, cap, rfl, h1, h2, ?_⟩
  rcases h3 with h3 | ⟨b, off, rfl, h4, h5⟩
  · exact .inl h3
  · exact .inr ⟨b, off, rfl, Nat.lt_of_lt_of_le h4 g.1, fun j hj => g.2 _ _ _ (h5 j hj)⟩
theorem Num.kp {w w' : World} {v : Value} {X k : Nat} (h : Num w v X k) (g : Kp w w') : Num w' v X k := by
  obtain ⟨xs, h1, h2⟩ := h
  exact ⟨xs, h1.kp g, h2⟩
theorem IntV.kp {w w' : World} {v : Value} {z : Int} {k : Nat} (h : IntV w v z k) (g : Kp w w') : IntV w' v z k := by
  obtain ⟨b, s, X, h1, h2, h3⟩ := h
  exact ⟨b, s, X, h1, h2.kp g, h3⟩
theorem NorI.kp {w w' : World} {v : Value} {z : Int} (h : NorI w v z) (g : Kp w w') : NorI w' v z := by
  obtain ⟨p, cap, h1, h2⟩ := h
  exact ⟨p, cap, h1, h2.kp g⟩
theorem DecI.kp {w w' : World} {v : Value} {z : Int} {k : Nat} (h : DecI w v z k) (g : Kp w w') : DecI w' v z k := by
  obtain ⟨p, cap, h1, h2, h3⟩ := h
  exact ⟨p, cap, h1, h2.kp g, h3⟩

end Go.Proofs.Ytmmmpdpgkjcohaa
