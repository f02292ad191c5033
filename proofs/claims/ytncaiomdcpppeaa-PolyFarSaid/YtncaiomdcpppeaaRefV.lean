/- The reference's rationals, what comes in, copies and checks, by the symbolic walk. -/
import Derived.Test.YtncaiomdcpppeaaRatN
import Derived.Test.YtncaiomdcpppeaaRefR
namespace Go.Proofs.Ytncaiomdcpppeaa.Sym
open Go.RowKit
section
variable {Φ : Nat → World → Value → Prop}
theorem den_ne' (q : Rat) : (q.den : Int) ≠ 0 := by have := q.den_nz; omega
theorem _root_.Go.Proofs.Ytncaiomdcpppeaa.den_ne (q : Rat) : (q.den : Int) ≠ 0 := den_ne' q
theorem _root_.Go.Proofs.Ytncaiomdcpppeaa.den_pos (q : Rat) : 0 < (q.den : Int) := by have := q.den_nz; omega
theorem _root_.Go.Proofs.Ytncaiomdcpppeaa.add_ref (q r : Rat) : qOf (q.num * r.den + r.num * q.den) (q.den * r.den) = q + r := by
  rw [qOf_ne (Int.mul_ne_zero (den_ne q) (den_ne r)), ← Rat.divInt_add_divInt _ _ (den_ne q) (den_ne r), Rat.num_divInt_den, Rat.num_divInt_den]
theorem _root_.Go.Proofs.Ytncaiomdcpppeaa.mul_ref (q r : Rat) : qOf (q.num * r.num) (q.den * r.den) = q * r := by
  rw [qOf_ne (Int.mul_ne_zero (den_ne q) (den_ne r)), ← Rat.divInt_mul_divInt, Rat.num_divInt_den, Rat.num_divInt_den]
theorem _root_.Go.Proofs.Ytncaiomdcpppeaa.quo_ref (q : Rat) {r : Rat} (h : r ≠ 0) : qOf (q.num * r.den) (q.den * r.num) = q / r := by
  have hr : r.num ≠ 0 := fun e => h (Rat.num_eq_zero.1 e)
  rw [qOf_ne (Int.mul_ne_zero (den_ne q) hr), ← quo_parts, Rat.num_divInt_den, Rat.num_divInt_den]
theorem _root_.Go.Proofs.Ytncaiomdcpppeaa.cmp_ref (q r : Rat) : cmpI (q.num * r.den) (r.num * q.den) = cmpQ q r := by
  rw [cmp_parts (den_pos q) (den_pos r), Rat.num_divInt_den, Rat.num_divInt_den]
theorem _root_.Go.Proofs.Ytncaiomdcpppeaa.half_ref (q : Rat) : q * qOf 1 2 = q / 2 := by rw [Rat.div_def, show qOf 1 2 = (2 : Rat)⁻¹ by decide +kernel]
theorem tMake {p q x x1 x2 i j : Nat} {z : Int} {y : Int} {t : Rat} (hp : ∀ w v, Φ p w v → DecI w v z i) (hq : ∀ w v, Φ q w v → DecI w v y j) (hx : Φ x = fun w v => DecQ w v t (i + j + 2)) (hx1 : Φ x1 = fun w v => DecI w v t.num (i + j + 2)) (hx2 : Φ x2 = fun w v => DecI w v (t.den : Int) (i + j + 2)) (hk : i + j ≤ 200000) (ht : qOf z y = t) : SiteOk Φ Try.prog ⟨28, [.fact p, .fact q], [⟨sS, [(0, 0, x), (0, 2, x1), (2, 2, x2)]⟩], false⟩ :=
  site2 fun _ _ _ _ h0 h1 => (Make_h (hp _ _ (get h0)) (hq _ _ (get h1)) hk ht).mono fun _ _ h => pstS hx hx1 hx2 h
theorem tQuo {p q x i j : Nat} {z : Int} {y : Int} {t : Int} (hp : ∀ w v, Φ p w v → DecI w v z i) (hq : ∀ w v, Φ q w v → DecI w v y j) (hx : Φ x = fun w v => DecI w v t i) (hi : i + j ≤ 900000) (h0' : y ≠ 0) (h1' : y ∣ z) (ht : z / y = t) : SiteOk Φ Try.prog ⟨70, [.fact p, .fact q], [⟨dS, [(0, 0, x)]⟩], false⟩ :=
  site2 fun _ _ _ _ h0 h1 => (Quo_h (hp _ _ (get h0)) (hq _ _ (get h1)) hi h0' h1' ht).mono fun _ _ h => pstD hx h
def phi_fromr (z y : Int) (q : Rat) (i : Nat) : List (World → Value → Prop) := [fun w v => QV w v z y i, fun w v => IntV w v z i, fun w v => IntV w v y i, fun w v => DecI w v z i, fun w v => DecI w v y i, fun w v => DecQ w v q (i + i + 2), fun w v => DecI w v q.num (i + i + 2), fun w v => DecI w v (q.den : Int) (i + i + 2), fun w v => DecQ w v q (2 * i + 2)]
def ins_fromr : List Out := [⟨.agg [.b, .s, .b, .s], [(0, 0, 0), (0, 2, 1), (2, 2, 2)]⟩]
def ss_fromr : List Site := [⟨29, [.fact 1], [⟨.agg [.s, .b], [(0, 0, 3)]⟩], false⟩,
      ⟨29, [.fact 2], [⟨.agg [.s, .b], [(0, 0, 4)]⟩], false⟩,
      ⟨28, [.fact 3, .fact 4], [⟨.agg [.s, .b, .s, .b], [(0, 0, 5), (0, 2, 6), (2, 2, 7)]⟩], false⟩]
theorem tOfJ {p x : Nat} {t z : Int} (hp : ∀ w v, Φ p w v → v = .int .i64 z) (hx : Φ x = fun w v => DecI w v t 2) (h1 : -9223372036854775808 ≤ z) (h2 : z ≤ 9223372036854775807) (ht : z = t) : SiteOk Φ Try.prog ⟨30, [.fact p], [⟨dS, [(0, 0, x)]⟩], false⟩ :=
  site1 fun _ w v h0 => by
    obtain rfl := hp _ _ (get h0)
    exact (Of_h z h1 h2 ht).mono fun _ _ h => pstD hx h
def phi_ofr (x y : Int) (t : Rat) : List (World → Value → Prop) := [fun _ v => v = .int .i64 x, fun _ v => v = .int .i64 y, fun w v => DecI w v x 2, fun w v => DecI w v y 2, fun w v => DecQ w v t (2 + 2 + 2), fun w v => DecI w v t.num (2 + 2 + 2), fun w v => DecI w v (t.den : Int) (2 + 2 + 2)]
def ins_ofr : List Out := [⟨.one (.i), [(0, 0, 0)]⟩, ⟨.one (.i), [(0, 0, 1)]⟩]
def ss_ofr : List Site := [⟨30, [.fact 0], [⟨.agg [.s, .b], [(0, 0, 2)]⟩], false⟩,
      ⟨30, [.fact 1], [⟨.agg [.s, .b], [(0, 0, 3)]⟩], false⟩,
      ⟨28, [.fact 2, .fact 3], [⟨.agg [.s, .b, .s, .b], [(0, 0, 4), (0, 2, 5), (2, 2, 6)]⟩], false⟩]
set_option maxRecDepth 100000 in
theorem ofr {x y : Int} {t : Rat} (x1 : -9223372036854775808 ≤ x) (x2 : x ≤ 9223372036854775807) (y1 : -9223372036854775808 ≤ y) (y2 : y ≤ 9223372036854775807) (ht : qOf x y = t) : SiteOk (ph (phi_ofr x y t)) Try.prog ⟨38, [.fact 0, .fact 1], [⟨.agg [.s, .b, .s, .b], [(0, 0, 4)]⟩], false⟩ :=
  fn_ok ins_ofr [⟨.agg [.s, .b, .s, .b], [(0, 0, 4)]⟩] ss_ofr Try.func38 (by kernel_rfl)
    (all_cons (tOfJ (fun _ _ h => h) rfl x1 x2 rfl)
      (all_cons (tOfJ (fun _ _ h => h) rfl y1 y2 rfl)
      (all_cons (tMake dD dD rfl rfl rfl (by omega) ht)
      all_nil)))
    (ins_ok [.fact 0 (.one (.i)), .fact 1 (.one (.i))] ⟨fun _ _ h => ⟨⟨_, h⟩, fun _ e => by rw [h] at e; cases e⟩, fun _ _ h => ⟨⟨_, h⟩, fun _ e => by rw [h] at e; cases e⟩, trivial⟩) (fun _ _ _ h => h)

set_option maxRecDepth 100000 in
theorem _root_.Go.Proofs.Ytncaiomdcpppeaa.OfR_g (x y : Int) {t : Rat} {w : World} (x1 : -9223372036854775808 ≤ x) (x2 : x ≤ 9223372036854775807) (y1 : -9223372036854775808 ≤ y) (y2 : y ≤ 9223372036854775807) (ht : qOf x y = t) : Calls Try.prog 38 #[.int .i64 x, .int .i64 y] w (GotS w t 6) := by
  exact backS (ofr x1 x2 y1 y2 ht) rfl (vs := [.int .i64 x, .int .i64 y]) ⟨fun _ _ => rfl, fun _ _ => rfl, trivial⟩
theorem tOfR {x x1 x2 : Nat} {z y : Int} {t : Rat} (hx : Φ x = fun w v => DecQ w v t 6) (hx1 : Φ x1 = fun w v => DecI w v t.num 6) (hx2 : Φ x2 = fun w v => DecI w v (t.den : Int) 6) (z1 : -9223372036854775808 ≤ z) (z2 : z ≤ 9223372036854775807) (y1 : -9223372036854775808 ≤ y) (y2 : y ≤ 9223372036854775807) (ht : qOf z y = t) : SiteOk Φ Try.prog ⟨38, [.lit (.ci .i64 z), .lit (.ci .i64 y)], [⟨sS, [(0, 0, x), (0, 2, x1), (2, 2, x2)]⟩], false⟩ :=
  site2 fun _ w v u h0 h1 => by
    obtain rfl : v = .int .i64 z := h0
    obtain rfl : u = .int .i64 y := h1
    exact (OfR_g z y z1 z2 y1 y2 ht).mono fun _ _ h => pstS hx hx1 hx2 h
def phi_tor (q : Rat) (i : Nat) : List (World → Value → Prop) := [fun w v => DecQ w v q i, fun w v => DecI w v q.num i, fun w v => DecI w v (q.den : Int) i, fun w v => NorV w v q.num i, fun w v => NorV w v (q.den : Int) i, fun w v => NorQ w v q i]
def ins_tor : List Out := [⟨.agg [.s, .b, .s, .b], [(0, 0, 0), (0, 2, 1), (2, 2, 2)]⟩]
def phi_addr (q r t : Rat) (i j : Nat) : List (World → Value → Prop) := [fun w v => DecQ w v q i, fun w v => DecI w v q.num i, fun w v => DecI w v (q.den : Int) i, fun w v => DecQ w v r j, fun w v => DecI w v r.num j, fun w v => DecI w v (r.den : Int) j, fun w v => DecI w v (q.num * (r.den : Int)) (i + j), fun w v => DecI w v (r.num * (q.den : Int)) (j + i), fun w v => DecI w v ((q.num * (r.den : Int)) + (r.num * (q.den : Int))) ((i + j) + (j + i) + 1), fun w v => DecI w v ((q.den : Int) * (r.den : Int)) (i + j), fun w v => DecQ w v t (((i + j) + (j + i) + 1) + (i + j) + 2), fun w v => DecI w v t.num (((i + j) + (j + i) + 1) + (i + j) + 2), fun w v => DecI w v (t.den : Int) (((i + j) + (j + i) + 1) + (i + j) + 2), fun w v => DecQ w v t (3 * (i + j) + 3)]
def ins_addr : List Out := [⟨.agg [.s, .b, .s, .b], [(0, 0, 0), (0, 2, 1), (2, 2, 2)]⟩, ⟨.agg [.s, .b, .s, .b], [(0, 0, 3), (0, 2, 4), (2, 2, 5)]⟩]
def ss_addr : List Site := [⟨93, [.fact 1, .fact 5], [⟨.agg [.s, .b], [(0, 0, 6)]⟩], false⟩,
      ⟨93, [.fact 4, .fact 2], [⟨.agg [.s, .b], [(0, 0, 7)]⟩], false⟩,
      ⟨92, [.fact 6, .fact 7], [⟨.agg [.s, .b], [(0, 0, 8)]⟩], false⟩,
      ⟨93, [.fact 2, .fact 5], [⟨.agg [.s, .b], [(0, 0, 9)]⟩], false⟩,
      ⟨28, [.fact 8, .fact 9], [⟨.agg [.s, .b, .s, .b], [(0, 0, 10), (0, 2, 11), (2, 2, 12)]⟩], false⟩]
set_option maxRecDepth 100000 in
theorem addr {q r t : Rat} {i j : Nat} (hk : i + j ≤ 50000) (ht : q + r = t) : SiteOk (ph (phi_addr q r t i j)) Try.prog ⟨55, [.fact 0, .fact 3], [⟨sS, [(0, 0, 13)]⟩], false⟩ :=
  fn_ok ins_addr [⟨.agg [.s, .b, .s, .b], [(0, 0, 10)]⟩] ss_addr Try.func55 (by kernel_rfl)
    (all_cons (tMul dD dD rfl (by omega) rfl)
      (all_cons (tMul dD dD rfl (by omega) rfl)
      (all_cons (tAdd dD dD rfl (by omega) rfl)
      (all_cons (tMul dD dD rfl (by omega) rfl)
      (all_cons (tMake dD dD rfl rfl rfl (by omega) (by rw [← ht, add_ref]))
      all_nil)))))
    (ins_ok [.sub 0 (.agg [.s, .b, .s, .b]) [(0, 2, 1), (2, 2, 2)], .sub 3 (.agg [.s, .b, .s, .b]) [(0, 2, 4), (2, 2, 5)]] ⟨⟨fun _ _ h => DecQ.is h, fun _ _ h => DecQ.fst h, fun _ _ h => DecQ.snd h, trivial⟩, ⟨fun _ _ h => DecQ.is h, fun _ _ h => DecQ.fst h, fun _ _ h => DecQ.snd h, trivial⟩, trivial⟩) (out1 (weak fun _ _ h => DecQ.more h (by omega)))

set_option maxRecDepth 100000 in
theorem _root_.Go.Proofs.Ytncaiomdcpppeaa.AddR_g {v u : Value} {q r : Rat} {i j : Nat} {w : World} (hx : DecQ w v q i) (hy : DecQ w u r j) {t : Rat} (hk : i + j ≤ 50000) (ht : q + r = t) : Calls Try.prog 55 #[v, u] w (GotS w t (3 * (i + j) + 3)) := by
  exact backS (addr (q := q) (r := r) (i := i) (j := j) hk ht) rfl (vs := [v, u]) ⟨arg_kp rfl (fun _ _ _ g h => DecQ.kp h g) hx, arg_kp rfl (fun _ _ _ g h => DecQ.kp h g) hy, trivial⟩
theorem tAddR {p q x x1 x2 i j : Nat} {z : Rat} {y : Rat} {t : Rat} (hp : ∀ w v, Φ p w v → DecQ w v z i) (hq : ∀ w v, Φ q w v → DecQ w v y j) (hx : Φ x = fun w v => DecQ w v t (3 * (i + j) + 3)) (hx1 : Φ x1 = fun w v => DecI w v t.num (3 * (i + j) + 3)) (hx2 : Φ x2 = fun w v => DecI w v (t.den : Int) (3 * (i + j) + 3)) (hk : i + j ≤ 50000) (ht : z + y = t) : SiteOk Φ Try.prog ⟨55, [.fact p, .fact q], [⟨sS, [(0, 0, x), (0, 2, x1), (2, 2, x2)]⟩], false⟩ :=
  site2 fun _ _ _ _ h0 h1 => (AddR_g (hp _ _ (get h0)) (hq _ _ (get h1)) hk ht).mono fun _ _ h => pstS hx hx1 hx2 h
def phi_mulr (q r t : Rat) (i j : Nat) : List (World → Value → Prop) := [fun w v => DecQ w v q i, fun w v => DecI w v q.num i, fun w v => DecI w v (q.den : Int) i, fun w v => DecQ w v r j, fun w v => DecI w v r.num j, fun w v => DecI w v (r.den : Int) j, fun w v => DecI w v (q.num * r.num) (i + j), fun w v => DecI w v ((q.den : Int) * (r.den : Int)) (i + j), fun w v => DecQ w v t ((i + j) + (i + j) + 2), fun w v => DecI w v t.num ((i + j) + (i + j) + 2), fun w v => DecI w v (t.den : Int) ((i + j) + (i + j) + 2), fun w v => DecQ w v t (2 * (i + j) + 2)]
def ins_mulr : List Out := [⟨.agg [.s, .b, .s, .b], [(0, 0, 0), (0, 2, 1), (2, 2, 2)]⟩, ⟨.agg [.s, .b, .s, .b], [(0, 0, 3), (0, 2, 4), (2, 2, 5)]⟩]
def ss_mulr : List Site := [⟨93, [.fact 1, .fact 4], [⟨.agg [.s, .b], [(0, 0, 6)]⟩], false⟩,
      ⟨93, [.fact 2, .fact 5], [⟨.agg [.s, .b], [(0, 0, 7)]⟩], false⟩,
      ⟨28, [.fact 6, .fact 7], [⟨.agg [.s, .b, .s, .b], [(0, 0, 8), (0, 2, 9), (2, 2, 10)]⟩], false⟩]
set_option maxRecDepth 100000 in
theorem mulr {q r t : Rat} {i j : Nat} (hk : i + j ≤ 50000) (ht : q * r = t) : SiteOk (ph (phi_mulr q r t i j)) Try.prog ⟨61, [.fact 0, .fact 3], [⟨sS, [(0, 0, 11)]⟩], false⟩ :=
  fn_ok ins_mulr [⟨.agg [.s, .b, .s, .b], [(0, 0, 8)]⟩] ss_mulr Try.func61 (by kernel_rfl)
    (all_cons (tMul dD dD rfl (by omega) rfl)
      (all_cons (tMul dD dD rfl (by omega) rfl)
      (all_cons (tMake dD dD rfl rfl rfl (by omega) (by rw [← ht, mul_ref]))
      all_nil)))
    (ins_ok [.sub 0 (.agg [.s, .b, .s, .b]) [(0, 2, 1), (2, 2, 2)], .sub 3 (.agg [.s, .b, .s, .b]) [(0, 2, 4), (2, 2, 5)]] ⟨⟨fun _ _ h => DecQ.is h, fun _ _ h => DecQ.fst h, fun _ _ h => DecQ.snd h, trivial⟩, ⟨fun _ _ h => DecQ.is h, fun _ _ h => DecQ.fst h, fun _ _ h => DecQ.snd h, trivial⟩, trivial⟩) (out1 (weak fun _ _ h => DecQ.more h (by omega)))

set_option maxRecDepth 100000 in
theorem _root_.Go.Proofs.Ytncaiomdcpppeaa.MulR_g {v u : Value} {q r : Rat} {i j : Nat} {w : World} (hx : DecQ w v q i) (hy : DecQ w u r j) {t : Rat} (hk : i + j ≤ 50000) (ht : q * r = t) : Calls Try.prog 61 #[v, u] w (GotS w t (2 * (i + j) + 2)) := by
  exact backS (mulr (q := q) (r := r) (i := i) (j := j) hk ht) rfl (vs := [v, u]) ⟨arg_kp rfl (fun _ _ _ g h => DecQ.kp h g) hx, arg_kp rfl (fun _ _ _ g h => DecQ.kp h g) hy, trivial⟩
theorem tMulR {p q x x1 x2 i j : Nat} {z : Rat} {y : Rat} {t : Rat} (hp : ∀ w v, Φ p w v → DecQ w v z i) (hq : ∀ w v, Φ q w v → DecQ w v y j) (hx : Φ x = fun w v => DecQ w v t (2 * (i + j) + 2)) (hx1 : Φ x1 = fun w v => DecI w v t.num (2 * (i + j) + 2)) (hx2 : Φ x2 = fun w v => DecI w v (t.den : Int) (2 * (i + j) + 2)) (hk : i + j ≤ 50000) (ht : z * y = t) : SiteOk Φ Try.prog ⟨61, [.fact p, .fact q], [⟨sS, [(0, 0, x), (0, 2, x1), (2, 2, x2)]⟩], false⟩ :=
  site2 fun _ _ _ _ h0 h1 => (MulR_g (hp _ _ (get h0)) (hq _ _ (get h1)) hk ht).mono fun _ _ h => pstS hx hx1 hx2 h
def phi_quor (q r t : Rat) (i j : Nat) : List (World → Value → Prop) := [fun w v => DecQ w v q i, fun w v => DecI w v q.num i, fun w v => DecI w v (q.den : Int) i, fun w v => DecQ w v r j, fun w v => DecI w v r.num j, fun w v => DecI w v (r.den : Int) j, fun w v => DecI w v (q.num * (r.den : Int)) (i + j), fun w v => DecI w v ((q.den : Int) * r.num) (i + j), fun w v => DecQ w v t ((i + j) + (i + j) + 2), fun w v => DecI w v t.num ((i + j) + (i + j) + 2), fun w v => DecI w v (t.den : Int) ((i + j) + (i + j) + 2), fun w v => DecQ w v t (2 * (i + j) + 2)]
def ins_quor : List Out := [⟨.agg [.s, .b, .s, .b], [(0, 0, 0), (0, 2, 1), (2, 2, 2)]⟩, ⟨.agg [.s, .b, .s, .b], [(0, 0, 3), (0, 2, 4), (2, 2, 5)]⟩]
def ss_quor : List Site := [⟨93, [.fact 1, .fact 5], [⟨.agg [.s, .b], [(0, 0, 6)]⟩], false⟩,
      ⟨93, [.fact 2, .fact 4], [⟨.agg [.s, .b], [(0, 0, 7)]⟩], false⟩,
      ⟨28, [.fact 6, .fact 7], [⟨.agg [.s, .b, .s, .b], [(0, 0, 8), (0, 2, 9), (2, 2, 10)]⟩], false⟩]
def phi_negr (q t : Rat) (i : Nat) : List (World → Value → Prop) := [fun w v => DecQ w v q i, fun w v => DecI w v q.num i, fun w v => DecI w v (q.den : Int) i, fun w v => DecI w v (-q.num) i, fun w v => DecQ w v t i]
def ins_negr : List Out := [⟨.agg [.s, .b, .s, .b], [(0, 0, 0), (0, 2, 1), (2, 2, 2)]⟩]
def ss_negr : List Site := [⟨68, [.fact 1], [⟨.agg [.s, .b], [(0, 0, 3)]⟩], false⟩]
def phi_subr (q r t : Rat) (i j : Nat) : List (World → Value → Prop) := [fun w v => DecQ w v q i, fun w v => DecI w v q.num i, fun w v => DecI w v (q.den : Int) i, fun w v => DecQ w v r j, fun w v => DecI w v r.num j, fun w v => DecI w v (r.den : Int) j, fun w v => DecQ w v (-r) j, fun w v => DecI w v ((-r).num) j, fun w v => DecI w v ((-r).den : Int) j, fun w v => DecQ w v t (3 * (i + j) + 3), fun w v => DecI w v t.num (3 * (i + j) + 3), fun w v => DecI w v (t.den : Int) (3 * (i + j) + 3), fun w v => DecQ w v t (3 * (i + j) + 3)]
def ins_subr : List Out := [⟨.agg [.s, .b, .s, .b], [(0, 0, 0), (0, 2, 1), (2, 2, 2)]⟩, ⟨.agg [.s, .b, .s, .b], [(0, 0, 3), (0, 2, 4), (2, 2, 5)]⟩]
def phi_halfr (q r t : Rat) (i j : Nat) : List (World → Value → Prop) := [fun w v => DecQ w v q i, fun w v => DecI w v q.num i, fun w v => DecI w v (q.den : Int) i, fun w v => DecQ w v r j, fun w v => DecI w v r.num j, fun w v => DecI w v (r.den : Int) j, fun w v => DecQ w v (q + r) (3 * (i + j) + 3), fun w v => DecI w v ((q + r).num) (3 * (i + j) + 3), fun w v => DecI w v ((q + r).den : Int) (3 * (i + j) + 3), fun w v => DecQ w v (qOf 1 2) 6, fun w v => DecI w v ((qOf 1 2).num) 6, fun w v => DecI w v ((qOf 1 2).den : Int) 6, fun w v => DecQ w v t (2 * ((3 * (i + j) + 3) + 6) + 2), fun w v => DecI w v t.num (2 * ((3 * (i + j) + 3) + 6) + 2), fun w v => DecI w v (t.den : Int) (2 * ((3 * (i + j) + 3) + 6) + 2), fun w v => DecQ w v t (6 * (i + j) + 20)]
def ins_halfr : List Out := [⟨.agg [.s, .b, .s, .b], [(0, 0, 0), (0, 2, 1), (2, 2, 2)]⟩, ⟨.agg [.s, .b, .s, .b], [(0, 0, 3), (0, 2, 4), (2, 2, 5)]⟩]
def ss_halfr : List Site := [⟨55, [.fact 0, .fact 3], [⟨.agg [.s, .b, .s, .b], [(0, 0, 6), (0, 2, 7), (2, 2, 8)]⟩], false⟩,
      ⟨38, [.lit (.ci .i64 1), .lit (.ci .i64 2)], [⟨.agg [.s, .b, .s, .b], [(0, 0, 9), (0, 2, 10), (2, 2, 11)]⟩], false⟩,
      ⟨61, [.fact 6, .fact 9], [⟨.agg [.s, .b, .s, .b], [(0, 0, 12), (0, 2, 13), (2, 2, 14)]⟩], false⟩]
theorem tCmpJ {p q x i j : Nat} {z y t : Int} (hp : ∀ w v, Φ p w v → DecI w v z i) (hq : ∀ w v, Φ q w v → DecI w v y j) (hx : Φ x = fun _ v => v = .int .i64 t) (hi : i + j ≤ 1000000) (hr : cmpI z y = t) : SiteOk Φ Try.prog ⟨91, [.fact p, .fact q], [⟨.one .i, [(0, 0, x)]⟩], false⟩ :=
  site2 fun _ _ _ _ h0 h1 => (Cmp_r t (hp _ _ (get h0)) (hq _ _ (get h1)) hi hr).mono fun _ _ h => pstJ hx h
def phi_cmpr (q r : Rat) (t : Int) (i j : Nat) : List (World → Value → Prop) := [fun w v => DecQ w v q i, fun w v => DecI w v q.num i, fun w v => DecI w v (q.den : Int) i, fun w v => DecQ w v r j, fun w v => DecI w v r.num j, fun w v => DecI w v (r.den : Int) j, fun w v => DecI w v (q.num * (r.den : Int)) (i + j), fun w v => DecI w v (r.num * (q.den : Int)) (j + i), fun _ v => v = .int .i64 t]
def ins_cmpr : List Out := [⟨.agg [.s, .b, .s, .b], [(0, 0, 0), (0, 2, 1), (2, 2, 2)]⟩, ⟨.agg [.s, .b, .s, .b], [(0, 0, 3), (0, 2, 4), (2, 2, 5)]⟩]
def ss_cmpr : List Site := [⟨93, [.fact 1, .fact 5], [⟨.agg [.s, .b], [(0, 0, 6)]⟩], false⟩,
      ⟨93, [.fact 4, .fact 2], [⟨.agg [.s, .b], [(0, 0, 7)]⟩], false⟩,
      ⟨91, [.fact 6, .fact 7], [⟨.one (.i), [(0, 0, 8)]⟩], false⟩]
theorem _root_.Go.Proofs.Ytncaiomdcpppeaa.NorV.nor {w : World} {v : Value} {z : Int} {k : Nat} (h : NorV w v z k) : NorI w v z := h.1
theorem tSame {p q i j : Nat} {z y : Int} {r : Bool} (hp : ∀ w v, Φ p w v → DecI w v z i) (hq : ∀ w v, Φ q w v → NorV w v y j) (hk : i ≤ 1000000) (he : z = y) (hr : true = r) : SiteOk Φ Try.prog ⟨90, [.fact p, .fact q], [⟨.one (.lit (.cb r)), []⟩], false⟩ :=
  site2 fun _ _ _ _ h0 h1 => (hr ▸ Same_r (hp _ _ (get h0)) hk (he ▸ (hq _ _ (get h1)).1)).mono fun _ _ h => pstB h
theorem NorQ.fst {w : World} {v : Value} {q : Rat} {k : Nat} (h : NorQ w v q k) : NorV w (subV 0 2 v) q.num k := by obtain ⟨_, _, _, _, _, _, _, _, rfl, h1, _⟩ := h; exact h1
theorem NorQ.snd {w : World} {v : Value} {q : Rat} {k : Nat} (h : NorQ w v q k) : NorV w (subV 2 2 v) (q.den : Int) k := by obtain ⟨_, _, _, _, _, _, _, _, rfl, _, h2⟩ := h; exact h2
def phi_samer (q : Rat) (i j : Nat) : List (World → Value → Prop) := [fun w v => DecQ w v q i, fun w v => DecI w v q.num i, fun w v => DecI w v (q.den : Int) i, fun w v => NorQ w v q j, fun w v => NorV w v q.num j, fun w v => NorV w v (q.den : Int) j]
def ins_samer : List Out := [⟨.agg [.s, .b, .s, .b], [(0, 0, 0), (0, 2, 1), (2, 2, 2)]⟩, ⟨.agg [.b, .s, .b, .s], [(0, 0, 3), (0, 2, 4), (2, 2, 5)]⟩]
def ss_samer : List Site := [⟨90, [.fact 1, .fact 4], [⟨.one (.lit (.cb true)), []⟩], false⟩,
      ⟨90, [.fact 2, .fact 5], [⟨.one (.lit (.cb true)), []⟩], false⟩]
def phi_isq (q : Rat) (i j : Nat) : List (World → Value → Prop) := [fun w v => DecQ w v q i, fun w v => DecI w v q.num i, fun w v => DecI w v (q.den : Int) i, fun w v => NorQ w v q j, fun w v => NorV w v q.num j, fun w v => NorV w v (q.den : Int) j]
def ins_isq : List Out := [⟨.agg [.s, .b, .s, .b], [(0, 0, 0), (0, 2, 1), (2, 2, 2)]⟩, ⟨.agg [.b, .s, .b, .s], [(0, 0, 3), (0, 2, 4), (2, 2, 5)]⟩]
theorem sSameInt {p q i j : Nat} {z : Int} {y : Int} {r : Bool} (hp : ∀ w v, Φ p w v → NorV w v z i) (hq : ∀ w v, Φ q w v → NorV w v y j) (he : z = y) (hr : true = r) : SiteOk Φ Try.prog ⟨66, [.fact p, .fact q], [⟨.one (.lit (.cb r)), []⟩], false⟩ :=
  site2 fun _ _ _ _ h0 h1 => (hr ▸ SameInt_t (hp _ _ (get h0)).1 (hq _ _ (get h1)).1 he).mono fun _ _ h => pstB h
def phi_samerat (q : Rat) (i j : Nat) : List (World → Value → Prop) := [fun w v => NorQ w v q i, fun w v => NorV w v q.num i, fun w v => NorV w v (q.den : Int) i, fun w v => NorQ w v q j, fun w v => NorV w v q.num j, fun w v => NorV w v (q.den : Int) j]
def ins_samerat : List Out := [⟨.agg [.b, .s, .b, .s], [(0, 0, 0), (0, 2, 1), (2, 2, 2)]⟩, ⟨.agg [.b, .s, .b, .s], [(0, 0, 3), (0, 2, 4), (2, 2, 5)]⟩]
def ss_samerat : List Site := [⟨66, [.fact 1, .fact 4], [⟨.one (.lit (.cb true)), []⟩], false⟩,
      ⟨66, [.fact 2, .fact 5], [⟨.one (.lit (.cb true)), []⟩], false⟩]
theorem _root_.Go.Proofs.Ytncaiomdcpppeaa.take_sl {w : World} {p : Option Addr} {cap k m : Nat} {xs : List Nat} (hx : Sl w .u32 (.slice p xs.length cap) xs) (hm : (xs.take k).length = m) : Sl w .u32 (.slice p m cap) (xs.take k) := by
  have := hx.take (min xs.length k) (Nat.min_le_left _ _)
  rw [show xs.take (min xs.length k) = xs.take k by
    rcases Nat.le_total xs.length k with h | h
    · rw [Nat.min_eq_left h, List.take_length, List.take_of_length_le h]
    · rw [Nat.min_eq_right h]] at this
  rw [← hm, List.length_take, Nat.min_comm]
  exact this
theorem RawI.i {w : World} {v : Value} {b : Bool} {xs : List Nat} (k : Nat) (h : RawI w v b xs) (hk : xs.length ≤ k) : IntV w v (sg b (Proofs.Ytncaiomdcpppeaa.val 4294967296 xs)) k := by
  obtain ⟨s, rfl, h1, h2⟩ := h
  exact ⟨_, _, _, rfl, Num.row h1 h2 k hk, rfl⟩
theorem sKIntR {p x x' : Nat} (k : Nat) {ki z : Int} {b : Bool} {xs : List Nat} (hki : (k : Int) = ki) (hp : ∀ w v, Φ p w v → RawI w v b xs) (hx : Φ x = fun w v => RawI w v b (xs.take k)) (hx' : Φ x' = fun w v => IntV w v z k) (hz : sg b (Proofs.Ytncaiomdcpppeaa.val 4294967296 (xs.take k)) = z) : SiteOk Φ Try.prog ⟨26, [.fact p, .lit (.ci .i64 ki)], [⟨iS, [(0, 0, x), (0, 0, x')]⟩], false⟩ :=
  site2 fun _ w v u h0 h1 => by
    subst hki
    obtain rfl : u = .int .i64 k := h1
    obtain ⟨s, rfl, a1, a2⟩ := hp _ _ (get h0)
    obtain ⟨p, c, rfl, c1, -⟩ := id a1
    obtain ⟨m, hm⟩ : ∃ m, (xs.take k).length = m := ⟨_, rfl⟩
    refine (Int_k k c1 hm).mono fun e w' ⟨he, g⟩ => ⟨g, [_], he, ⟨iS_is, fun q hq w1 hw => ?_⟩, trivial⟩
    have r : RawI w1 (.agg #[.bool b, .slice p m c]) b (xs.take k) := RawI.kp ⟨_, rfl, (take_sl a1 hm).kp (Kp.of g), a2.take k⟩ hw.1
    simp only [List.mem_cons, List.not_mem_nil, or_false] at hq
    rcases hq with rfl | rfl
    · show Φ x w1 _; rw [hx]; exact r
    · show Φ x' w1 _; rw [hx']; exact hz ▸ RawI.i k r (by rw [List.length_take]; omega)
theorem RawQ.fst {w : World} {v : Value} {b b' : Bool} {xs ys : List Nat} (h : RawQ w v b xs b' ys) : RawI w (subV 0 2 v) b xs := by obtain ⟨s, s', rfl, h1, h2, h3, h4⟩ := h; exact ⟨_, rfl, h1, h2⟩
theorem RawQ.snd {w : World} {v : Value} {b b' : Bool} {xs ys : List Nat} (h : RawQ w v b xs b' ys) : RawI w (subV 2 2 v) b' ys := by obtain ⟨s, s', rfl, h1, h2, h3, h4⟩ := h; exact ⟨_, rfl, h3, h4⟩
theorem RawQ.join {w : World} {v : Value} {b b' : Bool} {xs ys : List Nat} (hs : qS.is v) (h1 : RawI w (subV 0 2 v) b xs) (h2 : RawI w (subV 2 2 v) b' ys) : RawQ w v b xs b' ys := by
  obtain ⟨vs, rfl, h⟩ := hs
  match vs, h with
  | [v0, v1, v2, v3], h =>
    obtain ⟨s, e, a1, a2⟩ := h1
    obtain ⟨s', e', a3, a4⟩ := h2
    have e1 : (Value.agg #[v0, v1]) = .agg #[.bool b, s] := e
    have e2 : (Value.agg #[v2, v3]) = .agg #[.bool b', s'] := e'
    simp only [Value.agg.injEq, Array.mk.injEq, List.cons.injEq, and_true] at e1 e2
    obtain ⟨rfl, rfl⟩ := e1
    obtain ⟨rfl, rfl⟩ := e2
    exact ⟨_, _, rfl, a1, a2, a3, a4⟩
/-- Four facts on halves make two of the whole. -/
theorem halves2 {p1 p1' p2 p2' x x' k : Nat} {b b' : Bool} {xs ys : List Nat} {z u : Int} (h1 : ∀ w v, Φ p1 w v → RawI w v b xs) (h1' : ∀ w v, Φ p1' w v → IntV w v z k) (h2 : ∀ w v, Φ p2 w v → RawI w v b' ys) (h2' : ∀ w v, Φ p2' w v → IntV w v u k) (hx : Φ x = fun w v => RawQ w v b xs b' ys) (hx' : Φ x' = fun w v => QV w v z u k) (X : Nat → Prop) (w : World) (v : Value)
    (hv : qS.is v ∧ ∀ q, q ∈ [(0, 2, p1), (0, 2, p1'), (2, 2, p2), (2, 2, p2')] → ∀ w1, Off X w w1 → Φ q.2.2 w1 (subV q.1 q.2.1 v)) : qS.is v ∧ ∀ q, q ∈ [(0, 0, x), (0, 0, x')] → ∀ w1, Off X w w1 → Φ q.2.2 w1 (subV q.1 q.2.1 v) :=
  ⟨hv.1, fun q hq w1 hw => by
    simp only [List.mem_cons, List.not_mem_nil, or_false] at hq
    rcases hq with rfl | rfl
    · show Φ x w1 v; rw [hx]; exact RawQ.join hv.1 (h1 _ _ (hv.2 (0, 2, p1) (by simp) w1 hw)) (h2 _ _ (hv.2 (2, 2, p2) (by simp) w1 hw))
    · show Φ x' w1 v; rw [hx']; exact QV.join hv.1 (h1' _ _ (hv.2 (0, 2, p1') (by simp) w1 hw)) (h2' _ _ (hv.2 (2, 2, p2') (by simp) w1 hw)) (Nat.le_refl _) (Nat.le_refl _)⟩
theorem sKIntRJ {p q x x' : Nat} (k : Nat) {z : Int} {b : Bool} {xs : List Nat} (hp : ∀ w v, Φ p w v → RawI w v b xs) (hq : ∀ w v, Φ q w v → v = .int .i64 (k : Int)) (hx : Φ x = fun w v => RawI w v b (xs.take k)) (hx' : Φ x' = fun w v => IntV w v z k) (hz : sg b (Proofs.Ytncaiomdcpppeaa.val 4294967296 (xs.take k)) = z) : SiteOk Φ Try.prog ⟨26, [.fact p, .fact q], [⟨iS, [(0, 0, x), (0, 0, x')]⟩], false⟩ := fun X w vs hX ha => by
  match vs, ha with
  | [v, u], ha =>
    exact sKIntR k rfl hp hx hx' hz X w [v, u] hX ⟨ha.1, hq _ _ (get ha.2.1), trivial⟩
def phi_kratw (k : Nat) (b b' : Bool) (xs ys : List Nat) (z u : Int) : List (World → Value → Prop) := [fun w v => RawQ w v b xs b' ys, fun w v => RawI w v b xs, fun w v => RawI w v b' ys, fun _ v => v = .int .i64 (k : Int), fun w v => RawI w v b (xs.take k), fun w v => IntV w v z k, fun w v => RawI w v b' (ys.take k), fun w v => IntV w v u k, fun w v => RawQ w v b (xs.take k) b' (ys.take k), fun w v => QV w v z u k]
def ins_kratw : List Out := [⟨.agg [.b, .s, .b, .s], [(0, 0, 0), (0, 2, 1), (2, 2, 2)]⟩, ⟨.one (.i), [(0, 0, 3)]⟩]
def ss_kratw : List Site := [⟨26, [.fact 1, .fact 3], [⟨.agg [.b, .s], [(0, 0, 4), (0, 0, 5)]⟩], false⟩,
      ⟨26, [.fact 2, .fact 3], [⟨.agg [.b, .s], [(0, 0, 6), (0, 0, 7)]⟩], false⟩]
def phi_ofqw (k : Nat) (b b' : Bool) (xs ys : List Nat) (z u : Int) : List (World → Value → Prop) := [fun w v => RawQ w v b xs b' ys, fun w v => RawI w v b xs, fun w v => RawI w v b' ys, fun _ v => v = .int .i64 (k : Int), fun w v => RawQ w v b (xs.take k) b' (ys.take k), fun w v => QV w v z u k, fun w v => DecQ w v (qOf z u) (2 * k + 2), fun w v => DecI w v ((qOf z u).num) (2 * k + 2), fun w v => DecI w v ((qOf z u).den : Int) (2 * k + 2)]
def ins_ofqw : List Out := [⟨.agg [.b, .s, .b, .s], [(0, 0, 0), (0, 2, 1), (2, 2, 2)]⟩, ⟨.one (.i), [(0, 0, 3)]⟩]
def SlA (w : World) (v : Value) (xs : List Nat) : Prop := Sl w .u32 v xs ∧ All 4294967296 xs
theorem SlA.kp {w w' : World} {v : Value} {xs : List Nat} (h : SlA w v xs) (g : Kp w w') : SlA w' v xs := ⟨h.1.kp g, h.2⟩
theorem sCopy {p x : Nat} {xs : List Nat} (hp : ∀ w v, Φ p w v → SlA w v xs) (hx : Φ x = fun w v => SlA w v xs) (hl : xs.length ≤ 17592186044415) : SiteOk Φ Try.prog ⟨89, [.fact p], [⟨.one .s, [(0, 0, x)]⟩], false⟩ :=
  site1 fun _ w v h0 => (Copy_any (hp _ _ (get h0)).1 hl).mono fun e w' h => by
    obtain ⟨v', rfl, h1, h2⟩ := h
    have h3 : SlA w' v' xs := ⟨h1.sl, (hp _ _ (get h0)).2⟩
    obtain ⟨p, c, rfl, -⟩ := id h3.1
    exact ⟨h2, [_], rfl, o1 (F := fun w v => SlA w v xs) (fun _ _ _ g h => SlA.kp h g) hx ⟨⟨_, _, _, rfl⟩, fun _ h => by cases h⟩ h3, trivial⟩
theorem RawI.sl {w : World} {v : Value} {b : Bool} {xs : List Nat} (h : RawI w v b xs) : SlA w (subV 1 1 v) xs := by obtain ⟨s, rfl, h1, h2⟩ := h; exact ⟨h1, h2⟩
theorem RawI.is' {w : World} {v : Value} {b : Bool} {xs : List Nat} (h : RawI w v b xs) : (CSh.agg [.lit (.cb b), .s]).is v := by
  obtain ⟨s, rfl, h1, h2⟩ := h
  obtain ⟨p, c, rfl, -⟩ := h1
  exact ⟨[_, _], rfl, rfl, ⟨_, _, _, rfl⟩, trivial⟩
theorem rawI_of {b : Bool} {xs : List Nat} {p1 x : Nat} (h1 : ∀ w v, Φ p1 w v → SlA w v xs) (hx : Φ x = fun w v => RawI w v b xs) (X : Nat → Prop) (w : World) (v : Value) (hv : (CSh.agg [.lit (.cb b), .s]).is v ∧ ∀ q, q ∈ [(1, 1, p1)] → ∀ w1, Off X w w1 → Φ q.2.2 w1 (subV q.1 q.2.1 v)) : iS.is v ∧ ∀ q, q ∈ [(0, 0, x)] → ∀ w1, Off X w w1 → Φ q.2.2 w1 (subV q.1 q.2.1 v) := by
  obtain ⟨⟨us, rfl, hu⟩, hf⟩ := hv
  match us, hu with
  | [v0, v1], hu =>
    obtain ⟨e0, ⟨p, n, c, rfl⟩, _⟩ := hu
    obtain rfl : v0 = .bool b := e0
    refine ⟨iS_is, fun q hq w1 hw => ?_⟩
    simp only [List.mem_singleton] at hq
    subst hq
    have := h1 _ _ (hf (1, 1, p1) (by simp) w1 hw)
    show Φ x w1 _
    rw [hx]
    exact ⟨_, rfl, this.1, this.2⟩
def phi_copyi_t (xs : List Nat) : List (World → Value → Prop) := [fun w v => RawI w v true xs, fun w v => SlA w v xs, fun w v => SlA w v xs, fun w v => RawI w v true xs]
def ins_copyi_t : List Out := [⟨.agg [.lit (.cb true), .s], [(0, 0, 0), (1, 1, 1)]⟩]
def ss_copyi_t : List Site := [⟨89, [.fact 1], [⟨.one (.s), [(0, 0, 2)]⟩], false⟩]
set_option maxRecDepth 100000 in
theorem copyi_t {xs : List Nat} (hl : xs.length ≤ 17592186044415) : SiteOk (ph (phi_copyi_t xs)) Try.prog ⟨52, [.fact 0], [⟨iS, [(0, 0, 3)]⟩], false⟩ :=
  fn_ok ins_copyi_t [⟨.agg [.lit (.cb true), .s], [(1, 1, 2)]⟩] ss_copyi_t Try.func52 (by kernel_rfl)
    (all_cons (sCopy (fun _ _ h => h) rfl hl)
      all_nil)
    (ins_ok [.sub 0 (.agg [.lit (.cb true), .s]) [(1, 1, 1)]] ⟨⟨fun _ _ h => RawI.is' h, fun _ _ h => RawI.sl h, trivial⟩, trivial⟩) (out1 (rawI_of (fun _ _ h => h) rfl))

def phi_copyi_f (xs : List Nat) : List (World → Value → Prop) := [fun w v => RawI w v false xs, fun w v => SlA w v xs, fun w v => SlA w v xs, fun w v => RawI w v false xs]
def ins_copyi_f : List Out := [⟨.agg [.lit (.cb false), .s], [(0, 0, 0), (1, 1, 1)]⟩]
def ss_copyi_f : List Site := [⟨89, [.fact 1], [⟨.one (.s), [(0, 0, 2)]⟩], false⟩]
set_option maxRecDepth 100000 in
theorem copyi_f {xs : List Nat} (hl : xs.length ≤ 17592186044415) : SiteOk (ph (phi_copyi_f xs)) Try.prog ⟨52, [.fact 0], [⟨iS, [(0, 0, 3)]⟩], false⟩ :=
  fn_ok ins_copyi_f [⟨.agg [.lit (.cb false), .s], [(1, 1, 2)]⟩] ss_copyi_f Try.func52 (by kernel_rfl)
    (all_cons (sCopy (fun _ _ h => h) rfl hl)
      all_nil)
    (ins_ok [.sub 0 (.agg [.lit (.cb false), .s]) [(1, 1, 1)]] ⟨⟨fun _ _ h => RawI.is' h, fun _ _ h => RawI.sl h, trivial⟩, trivial⟩) (out1 (rawI_of (fun _ _ h => h) rfl))

theorem sCopyI {p x : Nat} {b : Bool} {xs : List Nat} (hp : ∀ w v, Φ p w v → RawI w v b xs) (hx : Φ x = fun w v => RawI w v b xs) (hl : xs.length ≤ 17592186044415) : SiteOk Φ Try.prog ⟨52, [.fact p], [⟨iS, [(0, 0, x)]⟩], false⟩ :=
  site1 fun _ w v h0 => by
    have key : Calls Try.prog 52 #[v] w (fun e w' => w.grownBy w' none ∧ ∃ u, e = .returned u ∧ iS.is u ∧ RawI w' u b xs) := by
      cases b
      · exact back1 (copyi_f hl) (vs := [v]) ⟨arg_kp rfl (fun _ _ _ g h => RawI.kp h g) (hp _ _ (get h0)), trivial⟩ fun u w' hg hs f => ⟨hg, u, rfl, hs, f _ (List.mem_singleton.2 rfl)⟩
      · exact back1 (copyi_t hl) (vs := [v]) ⟨arg_kp rfl (fun _ _ _ g h => RawI.kp h g) (hp _ _ (get h0)), trivial⟩ fun u w' hg hs f => ⟨hg, u, rfl, hs, f _ (List.mem_singleton.2 rfl)⟩
    exact key.mono fun e w' ⟨hg, u, he, hs, h⟩ => ⟨hg, [u], he, o1 (F := fun w v => RawI w v b xs) (fun _ _ _ g h => RawI.kp h g) hx hs h, trivial⟩
def phi_copyrw (b b' : Bool) (xs ys : List Nat) : List (World → Value → Prop) := [fun w v => RawQ w v b xs b' ys, fun w v => RawI w v b xs, fun w v => RawI w v b' ys, fun w v => RawI w v b xs, fun w v => RawI w v b' ys, fun w v => RawQ w v b xs b' ys]
def ins_copyrw : List Out := [⟨.agg [.b, .s, .b, .s], [(0, 0, 0), (0, 2, 1), (2, 2, 2)]⟩]
def ss_copyrw : List Site := [⟨52, [.fact 1], [⟨.agg [.b, .s], [(0, 0, 3)]⟩], false⟩,
      ⟨52, [.fact 2], [⟨.agg [.b, .s], [(0, 0, 4)]⟩], false⟩]
theorem RawQ.qv {w : World} {v : Value} {b b' : Bool} {xs ys : List Nat} (k : Nat) {z u : Int} (h : RawQ w v b xs b' ys) (h1 : xs.length ≤ k) (h2 : ys.length ≤ k) (hz : sg b (Proofs.Ytncaiomdcpppeaa.val 4294967296 xs) = z) (hu : sg b' (Proofs.Ytncaiomdcpppeaa.val 4294967296 ys) = u) : QV w v z u k :=
  QV.join (RawQ.is h) (hz ▸ RawI.i k (RawQ.fst h) h1) (hu ▸ RawI.i k (RawQ.snd h) h2) (Nat.le_refl _) (Nat.le_refl _)
theorem sSameSl {p q : Nat} {xs : List Nat} (hp : ∀ w v, Φ p w v → SlA w v xs) (hq : ∀ w v, Φ q w v → SlA w v xs) : SiteOk Φ Try.prog ⟨94, [.fact p, .fact q], [⟨.one (.lit (.cb true)), []⟩], false⟩ :=
  site2 fun _ _ _ _ h0 h1 => (Same_b (hp _ _ (get h0)).1 (hq _ _ (get h1)).1).mono fun _ _ h => pstB (by rwa [show eqB xs xs = true by simp [eqB]] at h)
def phi_samei_t (xs : List Nat) : List (World → Value → Prop) := [fun w v => RawI w v true xs, fun w v => SlA w v xs, fun w v => RawI w v true xs, fun w v => SlA w v xs]
def ins_samei_t : List Out := [⟨.agg [.lit (.cb true), .s], [(0, 0, 0), (1, 1, 1)]⟩, ⟨.agg [.lit (.cb true), .s], [(0, 0, 2), (1, 1, 3)]⟩]
def ss_samei_t : List Site := [⟨94, [.fact 1, .fact 3], [⟨.one (.lit (.cb true)), []⟩], false⟩]
set_option maxRecDepth 100000 in
theorem samei_t {xs : List Nat}  : SiteOk (ph (phi_samei_t xs)) Try.prog ⟨66, [.fact 0, .fact 2], [⟨.one (.lit (.cb true)), []⟩], false⟩ :=
  fn_ok ins_samei_t [⟨.one (.lit (.cb true)), []⟩] ss_samei_t Try.func66 (by kernel_rfl)
    (all_cons (sSameSl (fun _ _ h => h) (fun _ _ h => h))
      all_nil)
    (ins_ok [.sub 0 (.agg [.lit (.cb true), .s]) [(1, 1, 1)], .sub 2 (.agg [.lit (.cb true), .s]) [(1, 1, 3)]] ⟨⟨fun _ _ h => RawI.is' h, fun _ _ h => RawI.sl h, trivial⟩, ⟨fun _ _ h => RawI.is' h, fun _ _ h => RawI.sl h, trivial⟩, trivial⟩) (fun _ _ _ h => h)

def phi_samei_f (xs : List Nat) : List (World → Value → Prop) := [fun w v => RawI w v false xs, fun w v => SlA w v xs, fun w v => RawI w v false xs, fun w v => SlA w v xs]
def ins_samei_f : List Out := [⟨.agg [.lit (.cb false), .s], [(0, 0, 0), (1, 1, 1)]⟩, ⟨.agg [.lit (.cb false), .s], [(0, 0, 2), (1, 1, 3)]⟩]
def ss_samei_f : List Site := [⟨94, [.fact 1, .fact 3], [⟨.one (.lit (.cb true)), []⟩], false⟩]
set_option maxRecDepth 100000 in
theorem samei_f {xs : List Nat}  : SiteOk (ph (phi_samei_f xs)) Try.prog ⟨66, [.fact 0, .fact 2], [⟨.one (.lit (.cb true)), []⟩], false⟩ :=
  fn_ok ins_samei_f [⟨.one (.lit (.cb true)), []⟩] ss_samei_f Try.func66 (by kernel_rfl)
    (all_cons (sSameSl (fun _ _ h => h) (fun _ _ h => h))
      all_nil)
    (ins_ok [.sub 0 (.agg [.lit (.cb false), .s]) [(1, 1, 1)], .sub 2 (.agg [.lit (.cb false), .s]) [(1, 1, 3)]] ⟨⟨fun _ _ h => RawI.is' h, fun _ _ h => RawI.sl h, trivial⟩, ⟨fun _ _ h => RawI.is' h, fun _ _ h => RawI.sl h, trivial⟩, trivial⟩) (fun _ _ _ h => h)

theorem sSameRawI {p q : Nat} {b : Bool} {xs : List Nat} (hp : ∀ w v, Φ p w v → RawI w v b xs) (hq : ∀ w v, Φ q w v → RawI w v b xs) : SiteOk Φ Try.prog ⟨66, [.fact p, .fact q], [⟨.one (.lit (.cb true)), []⟩], false⟩ :=
  site2 fun _ w v u h0 h1 => by
    have a0 := hp _ _ (get h0)
    have a1 := hq _ _ (get h1)
    cases b
    · exact (backL samei_f (vs := [v, u]) ⟨arg_kp rfl (fun _ _ _ g h => RawI.kp h g) a0, arg_kp rfl (fun _ _ _ g h => RawI.kp h g) a1, trivial⟩).mono fun _ _ h => pstB h
    · exact (backL samei_t (vs := [v, u]) ⟨arg_kp rfl (fun _ _ _ g h => RawI.kp h g) a0, arg_kp rfl (fun _ _ _ g h => RawI.kp h g) a1, trivial⟩).mono fun _ _ h => pstB h
def phi_samerq (b b' : Bool) (xs ys : List Nat) : List (World → Value → Prop) := [fun w v => RawQ w v b xs b' ys, fun w v => RawI w v b xs, fun w v => RawI w v b' ys, fun w v => RawQ w v b xs b' ys, fun w v => RawI w v b xs, fun w v => RawI w v b' ys]
def ins_samerq : List Out := [⟨.agg [.b, .s, .b, .s], [(0, 0, 0), (0, 2, 1), (2, 2, 2)]⟩, ⟨.agg [.b, .s, .b, .s], [(0, 0, 3), (0, 2, 4), (2, 2, 5)]⟩]
def ss_samerq : List Site := [⟨66, [.fact 1, .fact 4], [⟨.one (.lit (.cb true)), []⟩], false⟩,
      ⟨66, [.fact 2, .fact 5], [⟨.one (.lit (.cb true)), []⟩], false⟩]
theorem sIZero0 : SiteOk Φ Try.prog ⟨123, [.parts (.agg [.lit (.cb false), .lit .nl]) []], [⟨.one (.lit (.cb true)), []⟩], false⟩ :=
  site1 fun _ _ v h0 => by
    obtain ⟨⟨us, rfl, hu⟩, _⟩ := h0
    match us, hu with
    | [v0, v1], hu =>
      obtain ⟨e0, e1, _⟩ := hu
      obtain rfl : v0 = .bool false := e0
      obtain rfl : v1 = .slice none 0 0 := e1
      exact (Zero_z (z := 0) true ⟨none, 0, rfl, Sl.nil _ _⟩ rfl).mono fun _ _ h => pstB h
end
end Go.Proofs.Ytncaiomdcpppeaa.Sym
