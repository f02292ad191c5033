/- Rational numbers in memory; how functions hand them back. -/
import Derived.Test.YteblgmjpociffaaGreatGot
namespace Go.Proofs.YteblgmjpociffaaGreat
open Go.RowKit

/-- v is the rational q in any form: both numbers of at most k limbs. -/
def RatV (w : World) (v : Value) (q : Rat) (k : Nat) : Prop := ∃ b p n c b' p' n' c' z y, v = .agg #[.bool b, .slice p n c, .bool b', .slice p' n' c'] ∧ IntV w (.agg #[.bool b, .slice p n c]) z k ∧ IntV w (.agg #[.bool b', .slice p' n' c']) y k ∧ qOf z y = q
theorem RatV.kp {w w' : World} {v : Value} {q : Rat} {k : Nat} (h : RatV w v q k) (g : Kp w w') : RatV w' v q k := by
  obtain ⟨b, p, n, c, b', p', n', c', z, y, h1, h2, h3, h4⟩ := h
  exact ⟨b, p, n, c, b', p', n', c', z, y, h1, h2.kp g, h3.kp g, h4⟩
theorem RatV.grown {w w' : World} {v : Value} {q : Rat} {k : Nat} (h : RatV w v q k) (g : w.grownBy w' none) : RatV w' v q k := h.kp (Kp.of g)
theorem RatV.eq {w : World} {v : Value} {q r : Rat} {k : Nat} (h : RatV w v q k) (e : q = r) : RatV w v r k := e ▸ h
theorem RatV.more {w : World} {v : Value} {q : Rat} {k l : Nat} (h : RatV w v q k) (hl : k ≤ l) : RatV w v q l := by
  obtain ⟨b, p, n, c, b', p', n', c', z, y, h1, h2, h3, h4⟩ := h
  exact ⟨b, p, n, c, b', p', n', c', z, y, h1, h2.more hl, h3.more hl, h4⟩
/-- .. in its normal form. -/
def NorQ (w : World) (v : Value) (q : Rat) (k : Nat) : Prop := ∃ b p n c b' p' n' c', v = .agg #[.bool b, .slice p n c, .bool b', .slice p' n' c'] ∧ NorV w (.agg #[.bool b, .slice p n c]) q.num k ∧ NorV w (.agg #[.bool b', .slice p' n' c']) (q.den : Int) k
theorem NorQ.kp {w w' : World} {v : Value} {q : Rat} {k : Nat} (h : NorQ w v q k) (g : Kp w w') : NorQ w' v q k := by
  obtain ⟨b, p, n, c, b', p', n', c', h1, h2, h3⟩ := h
  exact ⟨b, p, n, c, b', p', n', c', h1, h2.kp g, h3.kp g⟩
theorem NorQ.grown {w w' : World} {v : Value} {q : Rat} {k : Nat} (h : NorQ w v q k) (g : w.grownBy w' none) : NorQ w' v q k := h.kp (Kp.of g)
theorem NorQ.q {w : World} {v : Value} {q : Rat} {k : Nat} (h : NorQ w v q k) : RatV w v q k := by
  obtain ⟨b, p, n, c, b', p', n', c', h1, h2, h3⟩ := h
  exact ⟨b, p, n, c, b', p', n', c', _, _, h1, h2.i, h3.i, qOf_self q⟩
theorem NorQ.eq {w : World} {v : Value} {q r : Rat} {k : Nat} (h : NorQ w v q k) (e : q = r) : NorQ w v r k := e ▸ h
theorem NorQ.more {w : World} {v : Value} {q : Rat} {k l : Nat} (h : NorQ w v q k) (hl : k ≤ l) : NorQ w v q l := by
  obtain ⟨b, p, n, c, b', p', n', c', h1, h2, h3⟩ := h
  exact ⟨b, p, n, c, b', p', n', c', h1, h2.more hl, h3.more hl⟩
/-- A rational was made. -/
def GotQ (w : World) (q : Rat) (k : Nat) (e : Ending) (w' : World) : Prop := ∃ b p n c b' p' n' c', e = .returned (.agg #[.bool b, .slice p n c, .bool b', .slice p' n' c']) ∧ NorQ w' (.agg #[.bool b, .slice p n c, .bool b', .slice p' n' c']) q k ∧ w.grownBy w' none
theorem GotQ.eq {w w' : World} {q r : Rat} {k : Nat} {e : Ending} (h : GotQ w q k e w') (hq : q = r) : GotQ w r k e w' := hq ▸ h
/-- A rational and no error were handed back. -/
def GotQE (w : World) (q : Rat) (k : Nat) (e : Ending) (w' : World) : Prop := ∃ b p n c b' p' n' c', e = .returned (.tuple #[.agg #[.bool b, .slice p n c, .bool b', .slice p' n' c'], .int .i64 0]) ∧ NorQ w' (.agg #[.bool b, .slice p n c, .bool b', .slice p' n' c']) q k ∧ w.grownBy w' none
/-- Numerator and denominator above 0. -/
def GotParts (w : World) (q : Rat) (k : Nat) (e : Ending) (w' : World) : Prop := ∃ b p n c b' p' n' c' z y, e = .returned (.tuple #[.agg #[.bool b, .slice p n c], .agg #[.bool b', .slice p' n' c']]) ∧ IntV w' (.agg #[.bool b, .slice p n c]) z k ∧ IntV w' (.agg #[.bool b', .slice p' n' c']) y k ∧ 0 < y ∧ Rat.divInt z y = q ∧ w.grownBy w' none
/-- The reference's rational. -/
def DecQ (w : World) (v : Value) (q : Rat) (k : Nat) : Prop := ∃ p n c b p' n' c' b', v = .agg #[.slice p n c, .bool b, .slice p' n' c', .bool b'] ∧ DecI w (.agg #[.slice p n c, .bool b]) q.num k ∧ DecI w (.agg #[.slice p' n' c', .bool b']) (q.den : Int) k
theorem DecQ.kp {w w' : World} {v : Value} {q : Rat} {k : Nat} (h : DecQ w v q k) (g : Kp w w') : DecQ w' v q k := by
  obtain ⟨p, n, c, b, p', n', c', b', h1, h2, h3⟩ := h
  exact ⟨p, n, c, b, p', n', c', b', h1, h2.kp g, h3.kp g⟩
theorem DecQ.grown {w w' : World} {v : Value} {q : Rat} {k : Nat} (h : DecQ w v q k) (g : w.grownBy w' none) : DecQ w' v q k := h.kp (Kp.of g)
theorem DecQ.eq {w : World} {v : Value} {q r : Rat} {k : Nat} (h : DecQ w v q k) (e : q = r) : DecQ w v r k := e ▸ h
theorem DecQ.more {w : World} {v : Value} {q : Rat} {k l : Nat} (h : DecQ w v q k) (hl : k ≤ l) : DecQ w v q l := by
  obtain ⟨p, n, c, b, p', n', c', b', h1, h2, h3⟩ := h
  exact ⟨p, n, c, b, p', n', c', b', h1, h2.more hl, h3.more hl⟩
/-- A rational of the reference was made. -/
def GotS (w : World) (q : Rat) (k : Nat) (e : Ending) (w' : World) : Prop := ∃ p n c b p' n' c' b', e = .returned (.agg #[.slice p n c, .bool b, .slice p' n' c', .bool b']) ∧ DecQ w' (.agg #[.slice p n c, .bool b, .slice p' n' c', .bool b']) q k ∧ w.grownBy w' none
theorem GotS.eq {w w' : World} {q r : Rat} {k : Nat} {e : Ending} (h : GotS w q k e w') (hq : q = r) : GotS w r k e w' := hq ▸ h

theorem post_I {fn : Func} {R : Ending → World → Prop} {a : Act} {w : World} {r g : Nat} {x y : Value} (hres : fn.results = #[ResultVar.cell r 26]) (hd : a.defers = []) (hr : a.tmps[r]? = some (.pointer (some ⟨g, 0, none⟩)))
    (c0 : w.cell? ⟨g, 0, none⟩ = some x) (c1 : w.cell? ⟨g, 1, none⟩ = some y) (h : R (.returned (.agg #[x, y])) w) : bodyPost Tryz.prog fn R .ret a w := by
  simp [bodyPost, results, hres, hr, c0, c1, go_sem, h, hd]
theorem post_D {fn : Func} {R : Ending → World → Prop} {a : Act} {w : World} {r g : Nat} {x y : Value} (hres : fn.results = #[ResultVar.cell r 51]) (hd : a.defers = []) (hr : a.tmps[r]? = some (.pointer (some ⟨g, 0, none⟩)))
    (c0 : w.cell? ⟨g, 0, none⟩ = some x) (c1 : w.cell? ⟨g, 1, none⟩ = some y) (h : R (.returned (.agg #[x, y])) w) : bodyPost Tryz.prog fn R .ret a w := by
  simp [bodyPost, results, hres, hr, c0, c1, go_sem, h, hd]
theorem post_II {fn : Func} {R : Ending → World → Prop} {a : Act} {w : World} {r g r' g' : Nat} {x y x' y' : Value} (hres : fn.results = #[ResultVar.cell r 26, ResultVar.cell r' 26]) (hd : a.defers = [])
    (hr : a.tmps[r]? = some (.pointer (some ⟨g, 0, none⟩))) (hr' : a.tmps[r']? = some (.pointer (some ⟨g', 0, none⟩)))
    (c0 : w.cell? ⟨g, 0, none⟩ = some x) (c1 : w.cell? ⟨g, 1, none⟩ = some y) (d0 : w.cell? ⟨g', 0, none⟩ = some x') (d1 : w.cell? ⟨g', 1, none⟩ = some y') (h : R (.returned (.tuple #[.agg #[x, y], .agg #[x', y']])) w) : bodyPost Tryz.prog fn R .ret a w := by
  simp [bodyPost, results, hres, hr, hr', c0, c1, d0, d1, go_sem, h, hd]
theorem post_Q {fn : Func} {R : Ending → World → Prop} {a : Act} {w : World} {r g : Nat} {x0 x1 x2 x3 : Value} (hres : fn.results = #[ResultVar.cell r 28]) (hd : a.defers = []) (hr : a.tmps[r]? = some (.pointer (some ⟨g, 0, none⟩)))
    (c0 : w.cell? ⟨g, 0, none⟩ = some x0) (c1 : w.cell? ⟨g, 1, none⟩ = some x1) (c2 : w.cell? ⟨g, 2, none⟩ = some x2) (c3 : w.cell? ⟨g, 3, none⟩ = some x3) (h : R (.returned (.agg #[x0, x1, x2, x3])) w) : bodyPost Tryz.prog fn R .ret a w := by
  simp [bodyPost, results, hres, hr, c0, c1, c2, c3, go_sem, h, hd]
theorem post_S {fn : Func} {R : Ending → World → Prop} {a : Act} {w : World} {r g : Nat} {x0 x1 x2 x3 : Value} (hres : fn.results = #[ResultVar.cell r 53]) (hd : a.defers = []) (hr : a.tmps[r]? = some (.pointer (some ⟨g, 0, none⟩)))
    (c0 : w.cell? ⟨g, 0, none⟩ = some x0) (c1 : w.cell? ⟨g, 1, none⟩ = some x1) (c2 : w.cell? ⟨g, 2, none⟩ = some x2) (c3 : w.cell? ⟨g, 3, none⟩ = some x3) (h : R (.returned (.agg #[x0, x1, x2, x3])) w) : bodyPost Tryz.prog fn R .ret a w := by
  simp [bodyPost, results, hres, hr, c0, c1, c2, c3, go_sem, h, hd]
theorem post_QE {fn : Func} {R : Ending → World → Prop} {a : Act} {w : World} {r g s : Nat} {x0 x1 x2 x3 v : Value} (hres : fn.results = #[ResultVar.cell r 28, ResultVar.tmp s]) (hd : a.defers = []) (hr : a.tmps[r]? = some (.pointer (some ⟨g, 0, none⟩))) (hs : a.tmps[s]? = some v)
    (c0 : w.cell? ⟨g, 0, none⟩ = some x0) (c1 : w.cell? ⟨g, 1, none⟩ = some x1) (c2 : w.cell? ⟨g, 2, none⟩ = some x2) (c3 : w.cell? ⟨g, 3, none⟩ = some x3) (h : R (.returned (.tuple #[.agg #[x0, x1, x2, x3], v])) w) : bodyPost Tryz.prog fn R .ret a w := by
  simp [bodyPost, results, hres, hr, hs, c0, c1, c2, c3, go_sem, h, hd]
theorem post_QS {fn : Func} {R : Ending → World → Prop} {a : Act} {w : World} {r g r' g' : Nat} {x0 x1 x2 x3 y0 y1 y2 y3 : Value} (hres : fn.results = #[ResultVar.cell r 28, ResultVar.cell r' 53]) (hd : a.defers = [])
    (hr : a.tmps[r]? = some (.pointer (some ⟨g, 0, none⟩))) (hr' : a.tmps[r']? = some (.pointer (some ⟨g', 0, none⟩)))
    (c0 : w.cell? ⟨g, 0, none⟩ = some x0) (c1 : w.cell? ⟨g, 1, none⟩ = some x1) (c2 : w.cell? ⟨g, 2, none⟩ = some x2) (c3 : w.cell? ⟨g, 3, none⟩ = some x3)
    (d0 : w.cell? ⟨g', 0, none⟩ = some y0) (d1 : w.cell? ⟨g', 1, none⟩ = some y1) (d2 : w.cell? ⟨g', 2, none⟩ = some y2) (d3 : w.cell? ⟨g', 3, none⟩ = some y3) (h : R (.returned (.tuple #[.agg #[x0, x1, x2, x3], .agg #[y0, y1, y2, y3]])) w) : bodyPost Tryz.prog fn R .ret a w := by
  simp [bodyPost, results, hres, hr, hr', c0, c1, c2, c3, d0, d1, d2, d3, go_sem, h, hd]

theorem zero_g {v : Value} {z : Int} {k : Nat} {w : World} {r : Bool} (hx : IntV w v z k) (hk : k ≤ 1000000) (hr : decide (z = 0) = r) :
    Calls Tryz.prog 143 #[v] w (fun e w' => e = .returned (.bool r) ∧ w.grownBy w' none) := by
  subst hr
  obtain ⟨b, s, X, rfl, hx, rfl⟩ := hx
  obtain ⟨p, n, c, rfl⟩ := hx.slice
  have Hx := Lib.hid hx
  clear hx
  have hz : decide (sg b X = 0) = decide (X = 0) := decide_eq_decide.2 (by cases b <;> simp [sg])
  rw [hz]
  have hl := dig_len_zero (b := 2) (by omega) (n := X)
  have e : ((((dig 2 X).length : Nat) : Int) == 0) = decide (X = 0) := by
    rw [Bool.eq_iff_iff, beq_iff_eq, decide_eq_true_eq]; omega
  have He := Lib.hid e
  clear e hl hz
  go_enter Tryz.func143, Tryz.ntmps143
  go_wp2_with fail
  with_reducible refine (Bits_n (Hx.out.grown (grown_alloc _ _ _)) hk).mono ?_
  rintro e w1 ⟨rfl, rfl⟩
  obtain ⟨l, hl⟩ : ∃ l : Nat, (dig 2 X).length = l := ⟨_, rfl⟩
  rw [hl] at He ⊢
  go_wp2_with fail
  go_ret
  exact ⟨by rw [← He.out]; first | rfl | simp, grown_alloc _ _ _⟩

end Go.Proofs.YteblgmjpociffaaGreat
