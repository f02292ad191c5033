/- Rational numbers in memory; how functions hand them back. -/
import Derived.Test.YteblgmjpociffaaGot
namespace Go.Proofs.Yteblgmjpociffaa
open Go.RowKit

/-- v is the rational q in any form: both numbers of at most k limbs. -/
def RatV (w : World) (v : Value) (q : Rat) (k : Nat) : Prop := ∃ b p n c b' p' n' c' z y, v = .agg #[.bool b, .slice p n c, .bool b', .slice p' n' c'] ∧ IntV w (.agg #[.bool b, .slice p n c]) z k ∧ IntV w (.agg #[.bool b', .slice p' n' c']) y k ∧ qOf z y = q
theorem RatV.kp {w w' : World} {v : Value} {q : Rat} {k : Nat} (h : RatV w v q k) (g : Kp w w') : RatV w' v q k := by
  obtain ⟨b, p, n, c, b', p', n', c', z, y, h1, h2, h3, h4⟩ := h
  exact ⟨b, p, n, c, b', p', n', c', z, y, h1, h2.kp g, h3.kp g, h4⟩
theorem RatV.grown {w w' : World} {v : Value} {q : Rat} {k : Nat} (h : RatV w v q k) (g : w.grownBy w' none) : RatV w' v q k := h.kp (Kp.of g)
theorem RatV.eq {w : World} {v : Value} {q r : Rat} {k : Nat} (h : RatV w v q k) (e : q = r) : RatV w v r k := e ▸ h
theorem RatV.more {w : World} {v : Value} {q : Rat} {k l : Nat} (h : RatV w v q k) (hl : k ≤ l) : RatV w v q l := by
  obtain ⟨b, p, n, c, b', p', n', c', z, y, h1, h2, h3, h4⟩ := h
  exact ⟨b, p, n, c, b', p', n', c', z, y, h1, h2.more hl, h3.more hl, h4⟩
/-- .. in its normal form. -/
def NorQ (w : World) (v : Value) (q : Rat) (k : Nat) : Prop := ∃ b p n c b' p' n' c', v = .agg #[.bool b, .slice p n c, .bool b', .slice p' n' c'] ∧ NorV w (.agg #[.bool b, .slice p n c]) q.num k ∧ NorV w (.agg #[.bool b', .slice p' n' c']) (q.den : Int) k
theorem NorQ.kp {w w' : World} {v : Value} {q : Rat} {k : Nat} (h : NorQ w v q k) (g : Kp w w') : NorQ w' v q k := by
  obtain ⟨b, p, n, c, b', p', n', c', h1, h2, h3⟩ := h
  exact ⟨b, p, n, c, b', p', n', c', h1, h2.kp g, h3.kp g⟩
theorem NorQ.grown {w w' : World} {v : Value} {q : Rat} {k : Nat} (h : NorQ w v q k) (g : w.grownBy w' none) : NorQ w' v q k := h.kp (Kp.of g)
theorem NorQ.q {w : World} {v : Value} {q : Rat} {k : Nat} (h : NorQ w v q k) : RatV w v q k := by
  obtain ⟨b, p, n, c, b', p', n', c', h1, h2, h3⟩ := h
  exact ⟨b, p, n, c, b', p', n', c', _, _, h1, h2.i, h3.i, qOf_self q⟩
theorem NorQ.eq {w : World} {v : Value} {q r : Rat} {k : Nat} (h : NorQ w v q k) (e : q = r) : NorQ w v r k := e ▸ h
theorem NorQ.more {w : World} {v : Value} {q : Rat} {k l : Nat} (h : NorQ w v q k) (hl : k ≤ l) : NorQ w v q l := by
  obtain ⟨b, p, n, c, b', p', n', c', h1, h2, h3⟩ := h
  exact ⟨b, p, n, c, b', p', n', c', h1, h2.more hl, h3.more hl⟩
/-- A rational was made. -/
def GotQ (w : World) (q : Rat) (k : Nat) (e : Ending) (w' : World) : Prop := ∃ b p n c b' p' n' c', e = .returned (.agg #[.bool b, .slice p n c, .bool b', .slice p' n' c']) ∧ NorQ w' (.agg #[.bool b, .slice p n c, .bool b', .slice p' n' c']) q k ∧ w.grownBy w' none
theorem GotQ.eq {w w' : World} {q r : Rat} {k : Nat} {e : Ending} (h : GotQ w q k e w') (hq : q = r) : GotQ w r k e w' := hq ▸ h
/-- A rational and no error were handed back. -/
def GotQE (w : World) (q : Rat) (k : Nat) (e : Ending) (w' : World) : Prop := ∃ b p n c b' p' n' c', e = .returned (.tuple #[.agg #[.bool b, .slice p n c, .bool b', .slice p' n' c'], .int .i64 0]) ∧ NorQ w' (.agg #[.bool b, .slice p n c, .bool b', .slice p' n' c']) q k ∧ w.grownBy w' none
/-- Numerator and denominator above 0. -/
def GotParts (w : World) (q : Rat) (k : Nat) (e : Ending) (w' : World) : Prop := ∃ b p n c b' p' n' c' z y, e = .returned (.tuple #[.agg #[.bool b, .slice p n c], .agg #[.bool b', .slice p' n' c']]) ∧ IntV w' (.agg #[.bool b, .slice p n c]) z k ∧ IntV w' (.agg #[.bool b', .slice p' n' c']) y k ∧ 0 < y ∧ Rat.divInt z y = q ∧ w.grownBy w' none
/-- The reference's rational. -/
def DecQ (w : World) (v : Value) (q : Rat) (k : Nat) : Prop := ∃ p n c b p' n' c' b', v = .agg #[.slice p n c, .bool b, .slice p' n' c', .bool b'] ∧ DecI w (.agg #[.slice p n c, .bool b]) q.num k ∧ DecI w (.agg #[.slice p' n' c', .bool b']) (q.den : Int) k
theorem DecQ.kp {w w' : World} {v : Value} {q : Rat} {k : Nat} (h : DecQ w v q k) (g : Kp w w') : DecQ w' v q k := by
  obtain ⟨p, n, c, b, p', n', c', b', h1, h2, h3⟩ := h
  exact ⟨p, n, c, b, p', n', c', b', h1, h2.kp g, h3.kp g⟩
theorem DecQ.grown {w w' : World} {v : Value} {q : Rat} {k : Nat} (h : DecQ w v q k) (g : w.grownBy w' none) : DecQ w' v q k := h.kp (Kp.of g)
theorem DecQ.eq {w : World} {v : Value} {q r : Rat} {k : Nat} (h : DecQ w v q k) (e : q = r) : DecQ w v r k := e ▸ h
theorem DecQ.more {w : World} {v : Value} {q : Rat} {k l : Nat} (h : DecQ w v q k) (hl : k ≤ l) : DecQ w v q l := by
  obtain ⟨p, n, c, b, p', n', c', b', h1, h2, h3⟩ := h
  exact ⟨p, n, c, b, p', n', c', b', h1, h2.more hl, h3.more hl⟩
/-- A rational of the reference was made. -/
def GotS (w : World) (q : Rat) (k : Nat) (e : Ending) (w' : World) : Prop := ∃ p n c b p' n' c' b', e = .returned (.agg #[.slice p n c, .bool b, .slice p' n' c', .bool b']) ∧ DecQ w' (.agg #[.slice p n c, .bool b, .slice p' n' c', .bool b']) q k ∧ w.grownBy w' none
theorem GotS.eq {w w' : World} {q r : Rat} {k : Nat} {e : Ending} (h : GotS w q k e w') (hq : q = r) : GotS w r k e w' := hq ▸ h

theorem post_I {fn : Func} {R : Ending → World → Prop} {a : Act} {w : World} {r g : Nat} {x y : Value} (hres : fn.results = #[ResultVar.cell r 36]) (hd : a.defers = []) (hr : a.tmps[r]? = some (.pointer (some ⟨g, 0, none⟩)))
    (c0 : w.cell? ⟨g, 0, none⟩ = some x) (c1 : w.cell? ⟨g, 1, none⟩ = some y) (h : R (.returned (.agg #[x, y])) w) : bodyPost Try.prog fn R .ret a w := by
  simp [bodyPost, results, hres, hr, c0, c1, go_sem, h, hd]
theorem post_D {fn : Func} {R : Ending → World → Prop} {a : Act} {w : World} {r g : Nat} {x y : Value} (hres : fn.results = #[ResultVar.cell r 45]) (hd : a.defers = []) (hr : a.tmps[r]? = some (.pointer (some ⟨g, 0, none⟩)))
    (c0 : w.cell? ⟨g, 0, none⟩ = some x) (c1 : w.cell? ⟨g, 1, none⟩ = some y) (h : R (.returned (.agg #[x, y])) w) : bodyPost Try.prog fn R .ret a w := by
  simp [bodyPost, results, hres, hr, c0, c1, go_sem, h, hd]
theorem post_II {fn : Func} {R : Ending → World → Prop} {a : Act} {w : World} {r g r' g' : Nat} {x y x' y' : Value} (hres : fn.results = #[ResultVar.cell r 36, ResultVar.cell r' 36]) (hd : a.defers = [])
    (hr : a.tmps[r]? = some (.pointer (some ⟨g, 0, none⟩))) (hr' : a.tmps[r']? = some (.pointer (some ⟨g', 0, none⟩)))
    (c0 : w.cell? ⟨g, 0, none⟩ = some x) (c1 : w.cell? ⟨g, 1, none⟩ = some y) (d0 : w.cell? ⟨g', 0, none⟩ = some x') (d1 : w.cell? ⟨g', 1, none⟩ = some y') (h : R (.returned (.tuple #[.agg #[x, y], .agg #[x', y']])) w) : bodyPost Try.prog fn R .ret a w := by
  simp [bodyPost, results, hres, hr, hr', c0, c1, d0, d1, go_sem, h, hd]
theorem post_S {fn : Func} {R : Ending → World → Prop} {a : Act} {w : World} {r g : Nat} {x0 x1 x2 x3 : Value} (hres : fn.results = #[ResultVar.cell r 47]) (hd : a.defers = []) (hr : a.tmps[r]? = some (.pointer (some ⟨g, 0, none⟩)))
    (c0 : w.cell? ⟨g, 0, none⟩ = some x0) (c1 : w.cell? ⟨g, 1, none⟩ = some x1) (c2 : w.cell? ⟨g, 2, none⟩ = some x2) (c3 : w.cell? ⟨g, 3, none⟩ = some x3) (h : R (.returned (.agg #[x0, x1, x2, x3])) w) : bodyPost Try.prog fn R .ret a w := by
  simp [bodyPost, results, hres, hr, c0, c1, c2, c3, go_sem, h, hd]
end Go.Proofs.Yteblgmjpociffaa
