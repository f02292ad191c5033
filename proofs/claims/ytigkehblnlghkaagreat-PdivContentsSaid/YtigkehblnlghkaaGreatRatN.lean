/- Ratio's functions by the symbolic walk. -/
import Derived.Test.YtigkehblnlghkaaGreatSymS
namespace Go.Proofs.YtigkehblnlghkaaGreat.Sym
open Go.RowKit
section
variable {Φ : Nat → World → Value → Prop}
/-- .. its sign told. -/
def QVb (w : World) (v : Value) (b : Bool) (z y : Int) (k : Nat) : Prop := ∃ s b' s', v = .agg #[.bool b, s, .bool b', s'] ∧ Num w s z.natAbs k ∧ z = sg b z.natAbs ∧ IntV w (.agg #[.bool b', s']) y k
theorem QVb.kp {w w' : World} {v : Value} {b : Bool} {z y : Int} {k : Nat} (h : QVb w v b z y k) (g : Kp w w') : QVb w' v b z y k := by
  obtain ⟨s, b', s', h1, h2, h3, h4⟩ := h
  exact ⟨s, b', s', h1, h2.kp g, h3, h4.kp g⟩
theorem QV.vb {w : World} {v : Value} {z y : Int} {k : Nat} (h : QV w v z y k) : ∃ b, QVb w v b z y k := by
  obtain ⟨b, p, n, c, b', p', n', c', rfl, h1, h2⟩ := h
  obtain ⟨b1, s1, X, e, h3, h4⟩ := h1
  simp only [Value.agg.injEq, Array.mk.injEq, List.cons.injEq, Value.bool.injEq, and_true] at e
  obtain ⟨rfl, rfl⟩ := e
  have e2 : z.natAbs = X := by rw [h4]; exact sg_abs _ _
  exact ⟨b, _, b', _, rfl, by rw [e2]; exact h3, by rw [e2]; exact h4, h2⟩
theorem QVb.is {w : World} {v : Value} {b : Bool} {z y : Int} {k : Nat} (h : QVb w v b z y k) : (CSh.agg [.lit (.cb b), .s, .b, .s]).is v := by
  obtain ⟨s, b', s', rfl, h1, h2, h3⟩ := h
  obtain ⟨p, n, c, rfl⟩ := h1.slice
  obtain ⟨b2, p', n', c', e, h3⟩ := h3.open
  simp only [Value.agg.injEq, Array.mk.injEq, List.cons.injEq, Value.bool.injEq, and_true] at e
  obtain ⟨rfl, rfl⟩ := e
  exact ⟨[_, _, _, _], rfl, rfl, ⟨_, _, _, rfl⟩, ⟨_, rfl⟩, ⟨_, _, _, rfl⟩, trivial⟩
theorem QVb.num {w : World} {v : Value} {b : Bool} {z y : Int} {k : Nat} (h : QVb w v b z y k) : Num w (subV 1 1 v) z.natAbs k := by
  obtain ⟨s, b', s', rfl, h1, h2, h3⟩ := h; exact h1
theorem QVb.snd {w : World} {v : Value} {b : Bool} {z y : Int} {k : Nat} (h : QVb w v b z y k) : IntV w (subV 2 2 v) y k := by
  obtain ⟨s, b', s', rfl, h1, h2, h3⟩ := h; exact h3
end
end Go.Proofs.YtigkehblnlghkaaGreat.Sym
