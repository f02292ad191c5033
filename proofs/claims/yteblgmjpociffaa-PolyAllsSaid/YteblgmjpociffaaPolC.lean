/- Rows of whole numbers and of the reference's rationals in memory of the call's own: made, stored into, grown. -/
import Derived.Test.YteblgmjpociffaaPolB
import Derived.Test.YteblgmjpociffaaRefV
namespace Go.Proofs.Yteblgmjpociffaa.Sym
open Go.RowKit
def upto (j : Nat) (f : Nat → Int) (i : Nat) : Int := if i < j then f i else 0
theorem upto_ne {j i : Nat} {f : Nat → Int} (h : i ≠ j) : upto (j + 1) f i = upto j f i := by
  unfold upto
  split <;> split <;> first | rfl | omega
theorem upto_self (j : Nat) (f : Nat → Int) : upto (j + 1) f j = f j := if_pos (Nat.lt_succ_self j)
theorem upto_lt {j i : Nat} {f : Nat → Int} (h : i < j) : upto j f i = f i := if_pos h
theorem NorV.re {w : World} {v : Value} {z : Int} {k l : Nat} (h : NorV w v z k) (hb : Bd z.natAbs l) : NorV w v z l := ⟨And.left h, hb⟩
theorem NorV.zero (w : World) (k : Nat) : NorV w (.agg #[.bool false, .slice none 0 0]) 0 k := by
  exact ⟨⟨none, 0, by simp [dig, digF], by simpa [dig, digF] using Sl.nil w .u32⟩, by show (0 : Int).natAbs < _; exact Nat.pow_pos (by omega)⟩
theorem IntV.cellsA {z : Int} {k : Nat} {w : World} {l : List Value} (h : IntV w (.agg l.toArray) z k) : ∀ u, u ∈ l → u.oneCell' = true ∧ NoNum u := by
  obtain ⟨b, p, n, c, e, -⟩ := h.open
  simp only [Value.agg.injEq] at e
  have hl : l = [.bool b, .slice p n c] := by have := congrArg Array.toList e; simpa using this
  subst hl
  intro u hu
  simp only [List.mem_cons, List.not_mem_nil, or_false] at hu
  rcases hu with rfl | rfl <;> exact ⟨rfl, fun k m e => by cases e⟩
theorem NorV.cellsA {z : Int} {k : Nat} {w : World} {l : List Value} (h : NorV w (.agg l.toArray) z k) : ∀ u, u ∈ l → u.oneCell' = true ∧ NoNum u := IntV.cellsA h.i
theorem RawI.cellsA {b : Bool} {xs : List Nat} {w : World} {l : List Value} (h : RawI w (.agg l.toArray) b xs) : ∀ u, u ∈ l → u.oneCell' = true ∧ NoNum u := by
  obtain ⟨s, e, ⟨p, c, rfl, -⟩, -⟩ := h
  simp only [Value.agg.injEq] at e
  have hl : l = [.bool b, .slice p xs.length c] := by have := congrArg Array.toList e; simpa using this
  subst hl
  intro u hu
  simp only [List.mem_cons, List.not_mem_nil, or_false] at hu
  rcases hu with rfl | rfl <;> exact ⟨rfl, fun k m e => by cases e⟩
theorem DecQ.cellsA {q : Rat} {k : Nat} {w : World} {l : List Value} (h : DecQ w (.agg l.toArray) q k) : ∀ u, u ∈ l → u.oneCell' = true ∧ NoNum u := by
  obtain ⟨p, n, c, b, p', n', c', b', e, -⟩ := h
  simp only [Value.agg.injEq] at e
  have hl : l = [.slice p n c, .bool b, .slice p' n' c', .bool b'] := by have := congrArg Array.toList e; simpa using this
  subst hl
  intro u hu
  simp only [List.mem_cons, List.not_mem_nil, or_false] at hu
  rcases hu with rfl | rfl | rfl | rfl <;> exact ⟨rfl, fun k m e => by cases e⟩
theorem IntV.cells {z : Int} {k : Nat} {w : World} {v : Value} (h : IntV w v z k) : ∃ l : List Value, v = .agg l.toArray ∧ l.length = 2 ∧ ∀ u, u ∈ l → u.oneCell' = true ∧ NoNum u := by
  obtain ⟨b, p, n, c, rfl, h2⟩ := h.open
  exact ⟨[.bool b, .slice p n c], rfl, rfl, IntV.cellsA (l := [.bool b, .slice p n c]) h2⟩
theorem NorV.cells {z : Int} {k : Nat} {w : World} {v : Value} (h : NorV w v z k) : ∃ l : List Value, v = .agg l.toArray ∧ l.length = 2 ∧ ∀ u, u ∈ l → u.oneCell' = true ∧ NoNum u := IntV.cells h.i
theorem DecQ.cells {q : Rat} {k : Nat} {w : World} {v : Value} (h : DecQ w v q k) : ∃ l : List Value, v = .agg l.toArray ∧ l.length = 4 ∧ ∀ u, u ∈ l → u.oneCell' = true ∧ NoNum u := by
  obtain ⟨p, n, c, b, p', n', c', b', rfl, h2⟩ := id h
  exact ⟨[.slice p n c, .bool b, .slice p' n' c', .bool b'], rfl, rfl, DecQ.cellsA (l := [.slice p n c, .bool b, .slice p' n' c', .bool b']) h⟩
theorem infoI : (Try.prog.info? 36).map (fun i => (i.zero, i.size, i.bytes)) = some (some (.agg #[.bool false, .slice none 0 0]), 2, 32) := by kernel_rfl
theorem infoS : (Try.prog.info? 47).map (fun i => (i.zero, i.size, i.bytes)) = some (some (.agg #[.slice none 0 0, .bool false, .slice none 0 0, .bool false]), 4, 64) := by kernel_rfl
theorem zI_nn : ∀ u, u ∈ (Value.agg #[.bool false, .slice none 0 0]).cells.toList → NoNum u := fun x hx => by
  have hx' : x ∈ [Value.bool false, .slice none 0 0] := hx
  simp only [List.mem_cons, List.not_mem_nil, or_false] at hx'
  rcases hx' with rfl | rfl <;> exact fun k m e => by cases e
theorem zS_nn : ∀ u, u ∈ (Value.agg #[.slice none 0 0, .bool false, .slice none 0 0, .bool false]).cells.toList → NoNum u := fun x hx => by
  have hx' : x ∈ [Value.slice none 0 0, .bool false, .slice none 0 0, .bool false] := hx
  simp only [List.mem_cons, List.not_mem_nil, or_false] at hx'
  rcases hx' with rfl | rfl | rfl | rfl <;> exact fun k m e => by cases e
section
variable {Φ : Nat → World → Value → Prop} {p q x j n : Nat} {F : Nat → World → Value → Prop}
theorem qMakeI (hp : ∀ w v, Φ p w v → v = .int .i64 (n : Int)) (hn : n ≤ 1000000) (hF : ∀ k w, F k w (.agg #[.bool false, .slice none 0 0])) (hx : Φ x = fun w v => ArrO 2 36 F n w v) : SiteOk Φ Try.prog ⟨0, [.fact p, .fact p], [⟨.one .s, [(0, 0, x)]⟩], .loose [] j 0 (mMake 23)⟩ := by
  obtain ⟨i0, hi, hz0, hz1, hz2⟩ := info_parts infoI
  exact qMake Try.underlying23 hi hz0 hz1 hz2 rfl (by omega) (by omega) zI_nn hp hn hF hx
theorem qMakeR (hp : ∀ w v, Φ p w v → v = .int .i64 (n : Int)) (hn : n ≤ 1000000) (hF : ∀ k w, F k w (.agg #[.slice none 0 0, .bool false, .slice none 0 0, .bool false])) (hx : Φ x = fun w v => ArrO 4 47 F n w v) : SiteOk Φ Try.prog ⟨0, [.fact p, .fact p], [⟨.one .s, [(0, 0, x)]⟩], .loose [] j 0 (mMake 25)⟩ := by
  obtain ⟨i0, hi, hz0, hz1, hz2⟩ := info_parts infoS
  exact qMake Try.underlying25 hi hz0 hz1 hz2 rfl (by omega) (by omega) zS_nn hp hn hF hx
theorem qAppI (hF : ∀ i w w1 v, Kp w w1 → F i w v → F i w1 v) (hp : ∀ w v, Φ p w v → ArrO 2 36 F n w v) (hq : ∀ w v, Φ q w v → F n w v) (hc : ∀ w (l : List Value), Φ q w (.agg l.toArray) → ∀ u, u ∈ l → u.oneCell' = true ∧ NoNum u) (hn : n ≤ 1000000) (hx : Φ x = fun w v => ArrO 2 36 F (n + 1) w v) :
    SiteOk Φ Try.prog ⟨0, [.fact p, .row 2 [q]], [⟨.one .s, [(0, 0, x)]⟩], .loose [] j 0 (mApp 23 23)⟩ := by
  obtain ⟨i0, hi, hz0, hz1, hz2⟩ := info_parts infoI
  exact qAppR Try.underlying23 hi hz0 hz1 hz2 rfl (by omega) (by omega) zI_nn hF hp hq hc hn hx
theorem qAppS (hF : ∀ i w w1 v, Kp w w1 → F i w v → F i w1 v) (hp : ∀ w v, Φ p w v → ArrO 4 47 F n w v) (hq : ∀ w v, Φ q w v → F n w v) (hc : ∀ w (l : List Value), Φ q w (.agg l.toArray) → ∀ u, u ∈ l → u.oneCell' = true ∧ NoNum u) (hn : n ≤ 1000000) (hx : Φ x = fun w v => ArrO 4 47 F (n + 1) w v) :
    SiteOk Φ Try.prog ⟨0, [.fact p, .row 4 [q]], [⟨.one .s, [(0, 0, x)]⟩], .loose [] j 0 (mApp 25 25)⟩ := by
  obtain ⟨i0, hi, hz0, hz1, hz2⟩ := info_parts infoS
  exact qAppR Try.underlying25 hi hz0 hz1 hz2 rfl (by omega) (by omega) zS_nn hF hp hq hc hn hx
theorem onJ {P : Program} {Φ : Nat → World → Value → Prop} (J : List Nat) {f : FuncId} {args : List Arg} {outs : List Out} {tup : Bool} (h : SiteOk Φ P ⟨f, args, outs, .call tup⟩) : SiteOk Φ P ⟨f, args, outs, .callJ J tup⟩ := h
/-- 0 as it is written down. -/
theorem derive0 {p : Nat} (hp : Φ p = fun w v => NorV w v 0 0) (Y : Nat → Prop) (w : World) (v : Value) (h : (Arg.parts (.agg [.lit (.cb false), .lit .nl]) []).ok Φ Y w v) : (Arg.fact p).ok Φ Y w v := fun w1 hw => by
  rw [hp]
  obtain ⟨⟨us, rfl, h2⟩, _⟩ := h
  match us, h2 with
  | [v0, v1], h2 =>
    obtain ⟨e0, e1, _⟩ := h2
    have e0' : v0 = .bool false := e0
    have e1' : v1 = .slice none 0 0 := e1
    subst e0'; subst e1'
    exact NorV.zero w1 0
end
end Go.Proofs.Yteblgmjpociffaa.Sym
