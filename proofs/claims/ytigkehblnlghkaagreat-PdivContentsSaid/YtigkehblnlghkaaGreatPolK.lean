/- Rows of values of one cell each, made at once, in memory that is never written to again: as an operation of the symbolic walk. -/
import Derived.Test.YtigkehblnlghkaaGreatPolX
namespace Go.Proofs.YtigkehblnlghkaaGreat.Sym
open Go.RowKit
def mRow (T : TypeId) (n : Nat) : Op → Option (List Operand)
  | .buildSlice t l parts => if t = T ∧ l = n ∧ parts.toList.map (·.1) = List.range n then some (.const (.int .i64 0) :: parts.toList.map (·.2)) else none
  | _ => none
theorem parts_zip {α β γ : Type} (f : β → γ) : ∀ {l : List (α × β)} {r : List α}, l.map (·.1) = r → l.map (fun q => (q.1, f q.2)) = r.zip ((l.map (·.2)).map f)
  | [], r, h => by subst h; rfl
  | (a, b) :: l, r, h => by
    subst h
    simp only [List.map_cons, List.zip_cons_cons]
    rw [parts_zip f (l := l) rfl]
section
variable {P : Program} {Φ : Nat → World → Value → Prop} {x j n : Nat} {F : Nat → World → Value → Prop}
theorem row_args {X : Nat → Prop} {w : World} : ∀ {ps : List Nat} {vs : List Value}, argsOk Φ X w (ps.map Arg.fact) vs → vs.length = ps.length ∧ ∀ (i p : Nat) (v : Value), ps[i]? = some p → vs[i]? = some v → ∀ w1, Off X w w1 → Φ p w1 v
  | [], [], _ => ⟨rfl, fun i p v h => by simp at h⟩
  | p :: ps, v :: vs, h => by
    obtain ⟨h1, h2⟩ := row_args h.2
    refine ⟨by simp [h1], fun i q u hq hu => ?_⟩
    cases i with
    | zero =>
      simp only [List.getElem?_cons_zero, Option.some.injEq] at hq hu
      subst hq hu; exact h.1
    | succ i => exact h2 i q u (by simpa using hq) (by simpa using hu)
  | [], _ :: _, h => h.elim
  | _ :: _, [], h => h.elim
end
end Go.Proofs.YtigkehblnlghkaaGreat.Sym
