/- poly.At; the reference's At, Whole, Sign, Ends. -/
import Derived.Test.YteblgmjpociffaaPolZ
import Derived.Test.YteblgmjpociffaaPolQ
namespace Go.Proofs.Yteblgmjpociffaa.Sym
open Go.RowKit
theorem DecI.re {w : World} {v : Value} {z : Int} {k l : Nat} (h : DecI w v z k) (hb : Bd z.natAbs l) : DecI w v z l := by
  obtain ⟨p, c, h1, h2⟩ := h
  exact ⟨p, c, h1, h2.1, hb⟩
theorem DecQ.re {w : World} {v : Value} {q : Rat} {k l : Nat} (h : DecQ w v q k) (h1 : Bd q.num.natAbs l) (h2 : Bd q.den l) : DecQ w v q l := by
  obtain ⟨p, n, c, b, p', n', c', b', h3, h4, h5⟩ := h
  exact ⟨p, n, c, b, p', n', c', b', h3, DecI.re h4 h1, DecI.re h5 (by rw [Int.natAbs_natCast]; exact h2)⟩
theorem DecI.zero (w : World) (k : Nat) : DecI w (.agg #[.slice none 0 0, .bool false]) 0 k := by
  refine ⟨none, 0, by simp [dig, digF], ?_, by show (0 : Int).natAbs < _; exact Nat.pow_pos (by omega)⟩
  simpa [dig, digF] using Sl.nil w .i64
theorem qOf_00 : qOf 0 1 = 0 := by decide +kernel
theorem DecI.n1 {z : Int} {k : Nat} {w : World} {l : List Value} (h : DecI w (.agg l.toArray) (((z : Int) : Rat).den : Int) k) : ∃ s, Value.agg ((l.drop 0).take 1).toArray = .agg #[s] ∧ Arr 1 (fun _ _ v => v = .agg #[.int .i64 1]) 1 w s := by
  have h' : DecI w (.agg l.toArray) 1 k := h
  obtain ⟨p, c, e, -⟩ := id h'
  have e1 : (dig 10000 (1 : Int).natAbs).length = 1 := by decide
  rw [e1] at e
  simp only [Value.agg.injEq] at e
  have hl : l = [.slice p 1 c, .bool (decide ((1 : Int) < 0))] := by have := congrArg Array.toList e; simpa using this
  subst hl
  obtain ⟨blk, off, rfl, hc⟩ := DecI.one h'
  refine ⟨.slice (some ⟨blk, off, none⟩) 1 c, rfl, _, _, rfl, fun i hi => ⟨blk, off, rfl, [.int .i64 1], rfl, fun j u hj => ?_, rfl⟩⟩
  cases j with
  | succ j => simp at hj
  | zero =>
    simp only [List.getElem?_cons_zero, Option.some.injEq] at hj
    subst hj
    obtain rfl : i = 0 := by omega
    have hc' : w.cell? ⟨blk, off, none⟩ = some (.int .i64 1) := hc
    simpa using hc'
section
variable {P : Program} {Φ : Nat → World → Value → Prop} {p q x : Nat}
end
def b_rzero  : List (World → Value → Prop) := [fun w v => DecQ w v (qOf 0 1) 6, fun w v => DecI w v ((qOf 0 1).num) 6, fun w v => DecI w v ((qOf 0 1).den : Int) 6]
def ss_rzero : List Step := [.base ⟨36, [.lit (.ci .i64 0), .lit (.ci .i64 1)], [⟨.agg [.s, .b, .s, .b], [(0, 0, 0), (0, 2, 1), (2, 2, 2)]⟩], false⟩]
def ins_rzero : List Out := []
set_option maxRecDepth 100000 in
theorem rzero   : SiteOk (ph (b_rzero )) Try.prog ⟨49, [], [⟨.agg [.s, .b, .s, .b], [(0, 0, 0), (0, 2, 1), (2, 2, 2)]⟩], false⟩ := by
  skip
  exact fn_okL ins_rzero [⟨.agg [.s, .b, .s, .b], [(0, 0, 0), (0, 2, 1), (2, 2, 2)]⟩] ss_rzero Try.func49 (by kernel_rfl)
    (lbase (tOfR (z := 0) (y := 1) rfl rfl rfl (by decide) (by decide) (by decide) (by decide) rfl)
      lnil)
    (ins_ok [] trivial) (fun _ _ _ h => h)

section
variable {Φ : Nat → World → Value → Prop} {p q x x1 x2 n k kr kk i : Nat} {z : Nat → Int} {r : Rat}
theorem tZero5 (hx : Φ x = fun w v => DecQ w v (qOf 0 1) 6) (hx1 : Φ x1 = fun w v => DecI w v (qOf 0 1).num 6) (hx2 : Φ x2 = fun w v => DecI w v ((qOf 0 1).den : Int) 6) : SiteOk Φ Try.prog ⟨49, [], [⟨sS, [(0, 0, x), (0, 2, x1), (2, 2, x2)]⟩], false⟩ :=
  viaG rzero trivial ⟨⟨rfl, ⟨rfl, rfl, fun _ _ h => hx ▸ h⟩, ⟨rfl, rfl, fun _ _ h => hx1 ▸ h⟩, ⟨rfl, rfl, fun _ _ h => hx2 ▸ h⟩, trivial⟩, trivial⟩
end
section
variable {Φ : Nat → World → Value → Prop} {p q x n k kr kk : Nat} {z : Nat → Int} {r : Rat}
end
section
variable {Φ : Nat → World → Value → Prop} {p q x x1 x2 y n k kr kk kt kn : Nat} {z : Nat → Int} {r : Rat}
end
end Go.Proofs.Yteblgmjpociffaa.Sym
