/- Ratio's functions by the symbolic walk. -/
import Derived.Test.YtncaiomdcpppeaaSymS
namespace Go.Proofs.Ytncaiomdcpppeaa.Sym
open Go.RowKit
section
variable {Φ : Nat → World → Value → Prop}
def phi_parts_0 (z y : Int) (k : Nat) : List (World → Value → Prop) := [fun w v => QV w v z y k, fun w v => IntV w v z k, fun w v => IntV w v y k, fun w v => NorV w v (1 : Int) 2, fun w v => IntV w v (pN z y) (k + 2), fun w v => IntV w v (pD y) (k + 2)]
def ins_parts_0 : List Out := [⟨.agg [.b, .s, .b, .s], [(0, 0, 0), (0, 2, 1), (2, 2, 2)]⟩]
def ss_parts_0 : List Site := [⟨120, [.fact 2], [⟨.one (.lit (.cb true)), []⟩], false⟩,
      ⟨43, [.lit (.ci .i64 1)], [⟨.agg [.b, .s], [(0, 0, 3)]⟩], false⟩]
def phi_parts_m (z y : Int) (k : Nat) : List (World → Value → Prop) := [fun w v => QV w v z y k, fun w v => IntV w v z k, fun w v => IntV w v y k, fun w v => NorV w v (-z) k, fun w v => NorV w v (-y) k, fun w v => IntV w v (pN z y) (k + 2), fun w v => IntV w v (pD y) (k + 2)]
def ins_parts_m : List Out := [⟨.agg [.b, .s, .lit (.cb true), .s], [(0, 0, 0), (0, 2, 1), (2, 2, 2)]⟩]
def ss_parts_m : List Site := [⟨120, [.fact 2], [⟨.one (.lit (.cb false)), []⟩], false⟩,
      ⟨49, [.fact 1], [⟨.agg [.b, .s], [(0, 0, 3)]⟩], false⟩,
      ⟨49, [.fact 2], [⟨.agg [.b, .s], [(0, 0, 4)]⟩], false⟩]
def phi_parts_p (z y : Int) (k : Nat) : List (World → Value → Prop) := [fun w v => QV w v z y k, fun w v => IntV w v z k, fun w v => IntV w v y k, fun w v => IntV w v (pN z y) (k + 2), fun w v => IntV w v (pD y) (k + 2)]
def ins_parts_p : List Out := [⟨.agg [.b, .s, .lit (.cb false), .s], [(0, 0, 0), (0, 2, 1), (2, 2, 2)]⟩]
def ss_parts_p : List Site := [⟨120, [.fact 2], [⟨.one (.lit (.cb false)), []⟩], false⟩]
def phi_lowest_m (z y : Int) (i j k : Nat) : List (World → Value → Prop) := [fun w v => IntV w v z i, fun w v => IntV w v y j, fun w v => NorV w v (Int.gcd z y : Int) k, fun w v => NorV w v (-(Int.gcd z y : Int)) k, fun w v => NorV w v ((Rat.divInt z y).num) i, fun w v => NorV w v ((Rat.divInt z y).den : Int) j, fun w v => NorQ w v (Rat.divInt z y) k]
def ins_lowest_m : List Out := [⟨.agg [.b, .s], [(0, 0, 0)]⟩, ⟨.agg [.lit (.cb true), .s], [(0, 0, 1)]⟩]
def ss_lowest_m : List Site := [⟨118, [.row 2 [0, 1]], [⟨.agg [.b, .s], [(0, 0, 2)]⟩], false⟩,
      ⟨49, [.fact 2], [⟨.agg [.b, .s], [(0, 0, 3)]⟩], false⟩,
      ⟨119, [.fact 0, .fact 3], [⟨.agg [.b, .s], [(0, 0, 4)]⟩, ⟨.one (.lit (.ci .i64 0)), []⟩], true⟩,
      ⟨119, [.fact 1, .fact 3], [⟨.agg [.b, .s], [(0, 0, 5)]⟩, ⟨.one (.lit (.ci .i64 0)), []⟩], true⟩]
def phi_lowest_p (z y : Int) (i j k : Nat) : List (World → Value → Prop) := [fun w v => IntV w v z i, fun w v => IntV w v y j, fun w v => NorV w v (Int.gcd z y : Int) k, fun w v => NorV w v ((Rat.divInt z y).num) i, fun w v => NorV w v ((Rat.divInt z y).den : Int) j, fun w v => NorQ w v (Rat.divInt z y) k]
def ins_lowest_p : List Out := [⟨.agg [.b, .s], [(0, 0, 0)]⟩, ⟨.agg [.lit (.cb false), .s], [(0, 0, 1)]⟩]
def ss_lowest_p : List Site := [⟨118, [.row 2 [0, 1]], [⟨.agg [.b, .s], [(0, 0, 2)]⟩], false⟩,
      ⟨119, [.fact 0, .fact 2], [⟨.agg [.b, .s], [(0, 0, 3)]⟩, ⟨.one (.lit (.ci .i64 0)), []⟩], true⟩,
      ⟨119, [.fact 1, .fact 2], [⟨.agg [.b, .s], [(0, 0, 4)]⟩, ⟨.one (.lit (.ci .i64 0)), []⟩], true⟩]
def phi_make_0 (z y : Int) (i j : Nat) : List (World → Value → Prop) := [fun w v => IntV w v z i, fun w v => IntV w v y j]
def ins_make_0 : List Out := [⟨.agg [.b, .s], [(0, 0, 0)]⟩, ⟨.agg [.b, .s], [(0, 0, 1)]⟩]
def ss_make_0 : List Site := [⟨120, [.fact 1], [⟨.one (.lit (.cb true)), []⟩], false⟩]
def phi_make_1 (z y : Int) (t : Rat) (i j : Nat) : List (World → Value → Prop) := [fun w v => IntV w v z i, fun w v => IntV w v y j, fun w v => NorQ w v t (i + j), fun w v => NorV w v t.num (i + j), fun w v => NorV w v (t.den : Int) (i + j)]
def ins_make_1 : List Out := [⟨.agg [.b, .s], [(0, 0, 0)]⟩, ⟨.agg [.b, .s], [(0, 0, 1)]⟩]
def ss_make_1 : List Site := [⟨120, [.fact 1], [⟨.one (.lit (.cb false)), []⟩], false⟩,
      ⟨115, [.fact 0, .fact 1], [⟨.agg [.b, .s, .b, .s], [(0, 0, 2), (0, 2, 3), (2, 2, 4)]⟩], false⟩]
def _root_.Go.Proofs.Ytncaiomdcpppeaa.ErrQ (w : World) (k : Int) (e : Ending) (w' : World) : Prop := e = .returned (.tuple #[.agg #[.bool false, .slice none 0 0, .bool false, .slice none 0 0], .int .i64 k]) ∧ w.grownBy w' none
def phi_of_1 (x y : Int) (t : Rat) : List (World → Value → Prop) := [fun _ v => v = .int .i64 x, fun _ v => v = .int .i64 y, fun w v => NorV w v x 2, fun w v => NorV w v y 2, fun w v => NorQ w v t (2 + 2), fun w v => NorV w v t.num (2 + 2), fun w v => NorV w v (t.den : Int) (2 + 2)]
def ins_of_1 : List Out := [⟨.one (.i), [(0, 0, 0)]⟩, ⟨.one (.i), [(0, 0, 1)]⟩]
def phi_of_0 (x y : Int) : List (World → Value → Prop) := [fun _ v => v = .int .i64 x, fun _ v => v = .int .i64 y, fun w v => NorV w v x 2, fun w v => NorV w v y 2]
def ins_of_0 : List Out := [⟨.one (.i), [(0, 0, 0)]⟩, ⟨.one (.i), [(0, 0, 1)]⟩]
def phi_int_1 (z : Int) (i : Nat) : List (World → Value → Prop) := [fun w v => IntV w v z i, fun w v => NorV w v z i, fun w v => NorV w v (1 : Int) 2, fun w v => NorQ w v (z : Rat) (i + 2)]
def ins_int_1 : List Out := [⟨.agg [.b, .s], [(0, 0, 0)]⟩]
def ss_int_1 : List Site := [⟨63, [.fact 0], [⟨.agg [.b, .s], [(0, 0, 1)]⟩], false⟩,
      ⟨43, [.lit (.ci .i64 1)], [⟨.agg [.b, .s], [(0, 0, 2)]⟩], false⟩]
def phi_added_1 (z y z' y' : Int) (i j : Nat) : List (World → Value → Prop) := [fun w v => QV w v z y i, fun w v => IntV w v z i, fun w v => IntV w v y i, fun w v => QV w v z' y' j, fun w v => IntV w v z' j, fun w v => IntV w v y' j, fun w v => IntV w v (pN z y) (i + 2), fun w v => IntV w v (pD y) (i + 2), fun w v => IntV w v (pN z' y') (j + 2), fun w v => IntV w v (pD y') (j + 2), fun w v => NorV w v ((pN z y) * (pD y')) ((i + 2) + (j + 2)), fun w v => NorV w v ((pN z' y') * (pD y)) ((j + 2) + (i + 2)), fun w v => NorV w v (((pN z y) * (pD y')) + ((pN z' y') * (pD y))) (((i + 2) + (j + 2)) + ((j + 2) + (i + 2)) + 1), fun w v => NorV w v ((pD y) * (pD y')) ((i + 2) + (j + 2)), fun w v => IntV w v (pN z y * pD y' + pN z' y' * pD y) (2 * (i + j) + 9), fun w v => IntV w v (pD y * pD y') (2 * (i + j) + 9)]
def ins_added_1 : List Out := [⟨.agg [.b, .s, .b, .s], [(0, 0, 0), (0, 2, 1), (2, 2, 2)]⟩, ⟨.agg [.b, .s, .b, .s], [(0, 0, 3), (0, 2, 4), (2, 2, 5)]⟩]
def ss_added_1 : List Site := [⟨116, [.fact 0], [⟨.agg [.b, .s], [(0, 0, 6)]⟩, ⟨.agg [.b, .s], [(0, 0, 7)]⟩], true⟩,
      ⟨116, [.fact 3], [⟨.agg [.b, .s], [(0, 0, 8)]⟩, ⟨.agg [.b, .s], [(0, 0, 9)]⟩], true⟩,
      ⟨42, [.fact 6, .fact 9], [⟨.agg [.b, .s], [(0, 0, 10)]⟩], false⟩,
      ⟨42, [.fact 8, .fact 7], [⟨.agg [.b, .s], [(0, 0, 11)]⟩], false⟩,
      ⟨44, [.fact 10, .fact 11], [⟨.agg [.b, .s], [(0, 0, 12)]⟩], false⟩,
      ⟨42, [.fact 7, .fact 9], [⟨.agg [.b, .s], [(0, 0, 13)]⟩], false⟩]
def phi_add_1 (z y z' y' : Int) (t : Rat) (i j : Nat) : List (World → Value → Prop) := [fun w v => QV w v z y i, fun w v => IntV w v z i, fun w v => IntV w v y i, fun w v => QV w v z' y' j, fun w v => IntV w v z' j, fun w v => IntV w v y' j, fun w v => IntV w v (pN z y * pD y' + pN z' y' * pD y) (2 * (i + j) + 9), fun w v => IntV w v (pD y * pD y') (2 * (i + j) + 9), fun w v => NorQ w v t (2 * (i + j) + 9), fun w v => NorV w v t.num (2 * (i + j) + 9), fun w v => NorV w v (t.den : Int) (2 * (i + j) + 9)]
def ins_add_1 : List Out := [⟨.agg [.b, .s, .b, .s], [(0, 0, 0), (0, 2, 1), (2, 2, 2)]⟩, ⟨.agg [.b, .s, .b, .s], [(0, 0, 3), (0, 2, 4), (2, 2, 5)]⟩]
/-- .. its sign told. -/
def QVb (w : World) (v : Value) (b : Bool) (z y : Int) (k : Nat) : Prop := ∃ s b' s', v = .agg #[.bool b, s, .bool b', s'] ∧ Num w s z.natAbs k ∧ z = sg b z.natAbs ∧ IntV w (.agg #[.bool b', s']) y k
theorem QVb.kp {w w' : World} {v : Value} {b : Bool} {z y : Int} {k : Nat} (h : QVb w v b z y k) (g : Kp w w') : QVb w' v b z y k := by
  obtain ⟨s, b', s', h1, h2, h3, h4⟩ := h
  exact ⟨s, b', s', h1, h2.kp g, h3, h4.kp g⟩
theorem QVb.is {w : World} {v : Value} {b : Bool} {z y : Int} {k : Nat} (h : QVb w v b z y k) : (CSh.agg [.lit (.cb b), .s, .b, .s]).is v := by
  obtain ⟨s, b', s', rfl, h1, h2, h3⟩ := h
  obtain ⟨p, n, c, rfl⟩ := h1.slice
  obtain ⟨b2, p', n', c', e, h3⟩ := h3.open
  simp only [Value.agg.injEq, Array.mk.injEq, List.cons.injEq, Value.bool.injEq, and_true] at e
  obtain ⟨rfl, rfl⟩ := e
  exact ⟨[_, _, _, _], rfl, rfl, ⟨_, _, _, rfl⟩, ⟨_, rfl⟩, ⟨_, _, _, rfl⟩, trivial⟩
theorem QVb.num {w : World} {v : Value} {b : Bool} {z y : Int} {k : Nat} (h : QVb w v b z y k) : Num w (subV 1 1 v) z.natAbs k := by
  obtain ⟨s, b', s', rfl, h1, h2, h3⟩ := h; exact h1
theorem QVb.snd {w : World} {v : Value} {b : Bool} {z y : Int} {k : Nat} (h : QVb w v b z y k) : IntV w (subV 2 2 v) y k := by
  obtain ⟨s, b', s', rfl, h1, h2, h3⟩ := h; exact h3
def phi_minus_t (z y : Int) (k : Nat) : List (World → Value → Prop) := [fun w v => QVb w v true z y k, fun w v => Num w v z.natAbs k, fun w v => IntV w v y k, fun w v => QV w v (-z) y k]
def ins_minus_t : List Out := [⟨.agg [.lit (.cb true), .s, .b, .s], [(0, 0, 0), (1, 1, 1), (2, 2, 2)]⟩]
def ss_minus_t : List Site := []
def phi_minus_f (z y : Int) (k : Nat) : List (World → Value → Prop) := [fun w v => QVb w v false z y k, fun w v => Num w v z.natAbs k, fun w v => IntV w v y k, fun w v => QV w v (-z) y k]
def ins_minus_f : List Out := [⟨.agg [.lit (.cb false), .s, .b, .s], [(0, 0, 0), (1, 1, 1), (2, 2, 2)]⟩]
def ss_minus_f : List Site := []
def phi_sub_1 (z y z' y' : Int) (t : Rat) (i j : Nat) : List (World → Value → Prop) := [fun w v => QV w v z y i, fun w v => IntV w v z i, fun w v => IntV w v y i, fun w v => QV w v z' y' j, fun w v => IntV w v z' j, fun w v => IntV w v y' j, fun w v => QV w v (-z') y' j, fun w v => NorQ w v t (2 * (i + j) + 9), fun w v => NorV w v t.num (2 * (i + j) + 9), fun w v => NorV w v (t.den : Int) (2 * (i + j) + 9)]
def ins_sub_1 : List Out := [⟨.agg [.b, .s, .b, .s], [(0, 0, 0), (0, 2, 1), (2, 2, 2)]⟩, ⟨.agg [.b, .s, .b, .s], [(0, 0, 3), (0, 2, 4), (2, 2, 5)]⟩]
def phi_mul_1 (z y z' y' : Int) (t : Rat) (i j : Nat) : List (World → Value → Prop) := [fun w v => QV w v z y i, fun w v => IntV w v z i, fun w v => IntV w v y i, fun w v => QV w v z' y' j, fun w v => IntV w v z' j, fun w v => IntV w v y' j, fun w v => IntV w v (pN z y) (i + 2), fun w v => IntV w v (pD y) (i + 2), fun w v => IntV w v (pN z' y') (j + 2), fun w v => IntV w v (pD y') (j + 2), fun w v => NorV w v ((pN z y) * (pN z' y')) ((i + 2) + (j + 2)), fun w v => NorV w v ((pD y) * (pD y')) ((i + 2) + (j + 2)), fun w v => NorQ w v t (i + j + 4), fun w v => NorV w v t.num (i + j + 4), fun w v => NorV w v (t.den : Int) (i + j + 4)]
def ins_mul_1 : List Out := [⟨.agg [.b, .s, .b, .s], [(0, 0, 0), (0, 2, 1), (2, 2, 2)]⟩, ⟨.agg [.b, .s, .b, .s], [(0, 0, 3), (0, 2, 4), (2, 2, 5)]⟩]
def ss_mul_1 : List Site := [⟨116, [.fact 0], [⟨.agg [.b, .s], [(0, 0, 6)]⟩, ⟨.agg [.b, .s], [(0, 0, 7)]⟩], true⟩,
      ⟨116, [.fact 3], [⟨.agg [.b, .s], [(0, 0, 8)]⟩, ⟨.agg [.b, .s], [(0, 0, 9)]⟩], true⟩,
      ⟨42, [.fact 6, .fact 8], [⟨.agg [.b, .s], [(0, 0, 10)]⟩], false⟩,
      ⟨42, [.fact 7, .fact 9], [⟨.agg [.b, .s], [(0, 0, 11)]⟩], false⟩,
      ⟨115, [.fact 10, .fact 11], [⟨.agg [.b, .s, .b, .s], [(0, 0, 12), (0, 2, 13), (2, 2, 14)]⟩], false⟩]
def phi_neg_1 (z y : Int) (t : Rat) (i : Nat) : List (World → Value → Prop) := [fun w v => QV w v z y i, fun w v => IntV w v z i, fun w v => IntV w v y i, fun w v => QV w v (-z) y i, fun w v => IntV w v (pN (-z) y) (i + 2), fun w v => IntV w v (pD y) (i + 2), fun w v => NorQ w v t (i + 2), fun w v => NorV w v t.num (i + 2), fun w v => NorV w v (t.den : Int) (i + 2)]
def ins_neg_1 : List Out := [⟨.agg [.b, .s, .b, .s], [(0, 0, 0), (0, 2, 1), (2, 2, 2)]⟩]
def phi_mid_1 (z y z' y' : Int) (t : Rat) (i j : Nat) : List (World → Value → Prop) := [fun w v => QV w v z y i, fun w v => IntV w v z i, fun w v => IntV w v y i, fun w v => QV w v z' y' j, fun w v => IntV w v z' j, fun w v => IntV w v y' j, fun w v => IntV w v (pN z y * pD y' + pN z' y' * pD y) (2 * (i + j) + 9), fun w v => IntV w v (pD y * pD y') (2 * (i + j) + 9), fun w v => NorV w v ((pD y * pD y') + (pD y * pD y')) ((2 * (i + j) + 9) + (2 * (i + j) + 9) + 1), fun w v => NorQ w v t (6 * (i + j) + 28), fun w v => NorV w v t.num (6 * (i + j) + 28), fun w v => NorV w v (t.den : Int) (6 * (i + j) + 28)]
def ins_mid_1 : List Out := [⟨.agg [.b, .s, .b, .s], [(0, 0, 0), (0, 2, 1), (2, 2, 2)]⟩, ⟨.agg [.b, .s, .b, .s], [(0, 0, 3), (0, 2, 4), (2, 2, 5)]⟩]
def phi_quo_1 (z y z' y' : Int) (t : Rat) (i j : Nat) : List (World → Value → Prop) := [fun w v => QV w v z y i, fun w v => IntV w v z i, fun w v => IntV w v y i, fun w v => QV w v z' y' j, fun w v => IntV w v z' j, fun w v => IntV w v y' j, fun w v => IntV w v (pN z y) (i + 2), fun w v => IntV w v (pD y) (i + 2), fun w v => IntV w v (pN z' y') (j + 2), fun w v => IntV w v (pD y') (j + 2), fun w v => NorV w v ((pN z y) * (pD y')) ((i + 2) + (j + 2)), fun w v => NorV w v ((pD y) * (pN z' y')) ((i + 2) + (j + 2)), fun w v => NorQ w v t (((i + 2) + (j + 2)) + ((i + 2) + (j + 2))), fun w v => NorV w v t.num (((i + 2) + (j + 2)) + ((i + 2) + (j + 2))), fun w v => NorV w v (t.den : Int) (((i + 2) + (j + 2)) + ((i + 2) + (j + 2))), fun w v => NorQ w v t (2 * (i + j) + 8)]
def ins_quo_1 : List Out := [⟨.agg [.b, .s, .b, .s], [(0, 0, 0), (0, 2, 1), (2, 2, 2)]⟩, ⟨.agg [.b, .s, .b, .s], [(0, 0, 3), (0, 2, 4), (2, 2, 5)]⟩]
def phi_quo_0 (z y z' y' : Int) (i j : Nat) : List (World → Value → Prop) := [fun w v => QV w v z y i, fun w v => IntV w v z i, fun w v => IntV w v y i, fun w v => QV w v z' y' j, fun w v => IntV w v z' j, fun w v => IntV w v y' j, fun w v => IntV w v (pN z y) (i + 2), fun w v => IntV w v (pD y) (i + 2), fun w v => IntV w v (pN z' y') (j + 2), fun w v => IntV w v (pD y') (j + 2), fun w v => NorV w v ((pN z y) * (pD y')) ((i + 2) + (j + 2)), fun w v => NorV w v ((pD y) * (pN z' y')) ((i + 2) + (j + 2))]
def ins_quo_0 : List Out := [⟨.agg [.b, .s, .b, .s], [(0, 0, 0), (0, 2, 1), (2, 2, 2)]⟩, ⟨.agg [.b, .s, .b, .s], [(0, 0, 3), (0, 2, 4), (2, 2, 5)]⟩]
def phi_floor_1 (z y t : Int) (i : Nat) : List (World → Value → Prop) := [fun w v => QV w v z y i, fun w v => IntV w v z i, fun w v => IntV w v y i, fun w v => IntV w v (pN z y) (i + 2), fun w v => IntV w v (pD y) (i + 2), fun w v => NorV w v t ((i + 2) + 2), fun w v => NorV w v (pN z y % pD y) (i + 2)]
def ins_floor_1 : List Out := [⟨.agg [.b, .s, .b, .s], [(0, 0, 0), (0, 2, 1), (2, 2, 2)]⟩]
def ss_floor_1 : List Site := [⟨116, [.fact 0], [⟨.agg [.b, .s], [(0, 0, 3)]⟩, ⟨.agg [.b, .s], [(0, 0, 4)]⟩], true⟩,
      ⟨122, [.fact 3, .fact 4], [⟨.agg [.b, .s], [(0, 0, 5)]⟩, ⟨.agg [.b, .s], [(0, 0, 6)]⟩, ⟨.one (.lit (.ci .i64 0)), []⟩], true⟩]
def phi_cmp_1 (z y z' y' t : Int) (i j : Nat) : List (World → Value → Prop) := [fun w v => QV w v z y i, fun w v => IntV w v z i, fun w v => IntV w v y i, fun w v => QV w v z' y' j, fun w v => IntV w v z' j, fun w v => IntV w v y' j, fun w v => IntV w v (pN z y) (i + 2), fun w v => IntV w v (pD y) (i + 2), fun w v => IntV w v (pN z' y') (j + 2), fun w v => IntV w v (pD y') (j + 2), fun w v => NorV w v ((pN z y) * (pD y')) ((i + 2) + (j + 2)), fun w v => NorV w v ((pN z' y') * (pD y)) ((j + 2) + (i + 2)), fun _ v => v = .int .i64 t]
def ins_cmp_1 : List Out := [⟨.agg [.b, .s, .b, .s], [(0, 0, 0), (0, 2, 1), (2, 2, 2)]⟩, ⟨.agg [.b, .s, .b, .s], [(0, 0, 3), (0, 2, 4), (2, 2, 5)]⟩]
def ss_cmp_1 : List Site := [⟨116, [.fact 0], [⟨.agg [.b, .s], [(0, 0, 6)]⟩, ⟨.agg [.b, .s], [(0, 0, 7)]⟩], true⟩,
      ⟨116, [.fact 3], [⟨.agg [.b, .s], [(0, 0, 8)]⟩, ⟨.agg [.b, .s], [(0, 0, 9)]⟩], true⟩,
      ⟨42, [.fact 6, .fact 9], [⟨.agg [.b, .s], [(0, 0, 10)]⟩], false⟩,
      ⟨42, [.fact 8, .fact 7], [⟨.agg [.b, .s], [(0, 0, 11)]⟩], false⟩,
      ⟨40, [.fact 10, .fact 11], [⟨.one (.i), [(0, 0, 12)]⟩], false⟩]
end
end Go.Proofs.Ytncaiomdcpppeaa.Sym
