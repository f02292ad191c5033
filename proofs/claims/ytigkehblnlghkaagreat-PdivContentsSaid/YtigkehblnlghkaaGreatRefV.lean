/- The reference's rationals, what comes in, copies and checks, by the symbolic walk. -/
import Derived.Test.YtigkehblnlghkaaGreatRatN
import Derived.Test.YtigkehblnlghkaaGreatRefR
namespace Go.Proofs.YtigkehblnlghkaaGreat.Sym
open Go.RowKit
section
variable {Φ : Nat → World → Value → Prop}
theorem den_ne' (q : Rat) : (q.den : Int) ≠ 0 := by have := q.den_nz; omega
theorem _root_.Go.Proofs.YtigkehblnlghkaaGreat.den_ne (q : Rat) : (q.den : Int) ≠ 0 := den_ne' q
theorem _root_.Go.Proofs.YtigkehblnlghkaaGreat.mul_ref (q r : Rat) : qOf (q.num * r.num) (q.den * r.den) = q * r := by
  rw [qOf_ne (Int.mul_ne_zero (den_ne q) (den_ne r)), ← Rat.divInt_mul_divInt, Rat.num_divInt_den, Rat.num_divInt_den]
theorem _root_.Go.Proofs.YtigkehblnlghkaaGreat.quo_ref (q : Rat) {r : Rat} (h : r ≠ 0) : qOf (q.num * r.den) (q.den * r.num) = q / r := by
  have hr : r.num ≠ 0 := fun e => h (Rat.num_eq_zero.1 e)
  rw [qOf_ne (Int.mul_ne_zero (den_ne q) hr), ← quo_parts, Rat.num_divInt_den, Rat.num_divInt_den]
theorem tMake {p q x x1 x2 i j : Nat} {z : Int} {y : Int} {t : Rat} (hp : ∀ w v, Φ p w v → DecI w v z i) (hq : ∀ w v, Φ q w v → DecI w v y j) (hx : Φ x = fun w v => DecQ w v t (i + j + 2)) (hx1 : Φ x1 = fun w v => DecI w v t.num (i + j + 2)) (hx2 : Φ x2 = fun w v => DecI w v (t.den : Int) (i + j + 2)) (hk : i + j ≤ 200000) (ht : qOf z y = t) : SiteOk Φ Tryz.prog ⟨26, [.fact p, .fact q], [⟨sS, [(0, 0, x), (0, 2, x1), (2, 2, x2)]⟩], false⟩ :=
  site2 fun _ _ _ _ h0 h1 => (Make_h (hp _ _ (get h0)) (hq _ _ (get h1)) hk ht).mono fun _ _ h => pstS hx hx1 hx2 h
theorem tQuo {p q x i j : Nat} {z : Int} {y : Int} {t : Int} (hp : ∀ w v, Φ p w v → DecI w v z i) (hq : ∀ w v, Φ q w v → DecI w v y j) (hx : Φ x = fun w v => DecI w v t i) (hi : i + j ≤ 900000) (h0' : y ≠ 0) (h1' : y ∣ z) (ht : z / y = t) : SiteOk Φ Tryz.prog ⟨77, [.fact p, .fact q], [⟨dS, [(0, 0, x)]⟩], false⟩ :=
  site2 fun _ _ _ _ h0 h1 => (Quo_h (hp _ _ (get h0)) (hq _ _ (get h1)) hi h0' h1' ht).mono fun _ _ h => pstD hx h
theorem tOfJ {p x : Nat} {t z : Int} (hp : ∀ w v, Φ p w v → v = .int .i64 z) (hx : Φ x = fun w v => DecI w v t 2) (h1 : -9223372036854775808 ≤ z) (h2 : z ≤ 9223372036854775807) (ht : z = t) : SiteOk Φ Tryz.prog ⟨28, [.fact p], [⟨dS, [(0, 0, x)]⟩], false⟩ :=
  site1 fun _ w v h0 => by
    obtain rfl := hp _ _ (get h0)
    exact (Of_h z h1 h2 ht).mono fun _ _ h => pstD hx h
def phi_ofr (x y : Int) (t : Rat) : List (World → Value → Prop) := [fun _ v => v = .int .i64 x, fun _ v => v = .int .i64 y, fun w v => DecI w v x 2, fun w v => DecI w v y 2, fun w v => DecQ w v t (2 + 2 + 2), fun w v => DecI w v t.num (2 + 2 + 2), fun w v => DecI w v (t.den : Int) (2 + 2 + 2)]
def ins_ofr : List Out := [⟨.one (.i), [(0, 0, 0)]⟩, ⟨.one (.i), [(0, 0, 1)]⟩]
def ss_ofr : List Site := [⟨28, [.fact 0], [⟨.agg [.s, .b], [(0, 0, 2)]⟩], false⟩,
      ⟨28, [.fact 1], [⟨.agg [.s, .b], [(0, 0, 3)]⟩], false⟩,
      ⟨26, [.fact 2, .fact 3], [⟨.agg [.s, .b, .s, .b], [(0, 0, 4), (0, 2, 5), (2, 2, 6)]⟩], false⟩]
set_option maxRecDepth 100000 in
theorem ofr {x y : Int} {t : Rat} (x1 : -9223372036854775808 ≤ x) (x2 : x ≤ 9223372036854775807) (y1 : -9223372036854775808 ≤ y) (y2 : y ≤ 9223372036854775807) (ht : qOf x y = t) : SiteOk (ph (phi_ofr x y t)) Tryz.prog ⟨88, [.fact 0, .fact 1], [⟨.agg [.s, .b, .s, .b], [(0, 0, 4)]⟩], false⟩ :=
  fn_ok ins_ofr [⟨.agg [.s, .b, .s, .b], [(0, 0, 4)]⟩] ss_ofr Tryz.func88 (by kernel_rfl)
    (all_cons (tOfJ (fun _ _ h => h) rfl x1 x2 rfl)
      (all_cons (tOfJ (fun _ _ h => h) rfl y1 y2 rfl)
      (all_cons (tMake dD dD rfl rfl rfl (by omega) ht)
      all_nil)))
    (ins_ok [.fact 0 (.one (.i)), .fact 1 (.one (.i))] ⟨fun _ _ h => ⟨⟨_, h⟩, fun _ e => by rw [h] at e; cases e⟩, fun _ _ h => ⟨⟨_, h⟩, fun _ e => by rw [h] at e; cases e⟩, trivial⟩) (fun _ _ _ h => h)

set_option maxRecDepth 100000 in
theorem _root_.Go.Proofs.YtigkehblnlghkaaGreat.OfR_g (x y : Int) {t : Rat} {w : World} (x1 : -9223372036854775808 ≤ x) (x2 : x ≤ 9223372036854775807) (y1 : -9223372036854775808 ≤ y) (y2 : y ≤ 9223372036854775807) (ht : qOf x y = t) : Calls Tryz.prog 88 #[.int .i64 x, .int .i64 y] w (GotS w t 6) := by
  exact backS (ofr x1 x2 y1 y2 ht) rfl (vs := [.int .i64 x, .int .i64 y]) ⟨fun _ _ => rfl, fun _ _ => rfl, trivial⟩
theorem tOfR {x x1 x2 : Nat} {z y : Int} {t : Rat} (hx : Φ x = fun w v => DecQ w v t 6) (hx1 : Φ x1 = fun w v => DecI w v t.num 6) (hx2 : Φ x2 = fun w v => DecI w v (t.den : Int) 6) (z1 : -9223372036854775808 ≤ z) (z2 : z ≤ 9223372036854775807) (y1 : -9223372036854775808 ≤ y) (y2 : y ≤ 9223372036854775807) (ht : qOf z y = t) : SiteOk Φ Tryz.prog ⟨88, [.lit (.ci .i64 z), .lit (.ci .i64 y)], [⟨sS, [(0, 0, x), (0, 2, x1), (2, 2, x2)]⟩], false⟩ :=
  site2 fun _ w v u h0 h1 => by
    obtain rfl : v = .int .i64 z := h0
    obtain rfl : u = .int .i64 y := h1
    exact (OfR_g z y z1 z2 y1 y2 ht).mono fun _ _ h => pstS hx hx1 hx2 h
def phi_mulr (q r t : Rat) (i j : Nat) : List (World → Value → Prop) := [fun w v => DecQ w v q i, fun w v => DecI w v q.num i, fun w v => DecI w v (q.den : Int) i, fun w v => DecQ w v r j, fun w v => DecI w v r.num j, fun w v => DecI w v (r.den : Int) j, fun w v => DecI w v (q.num * r.num) (i + j), fun w v => DecI w v ((q.den : Int) * (r.den : Int)) (i + j), fun w v => DecQ w v t ((i + j) + (i + j) + 2), fun w v => DecI w v t.num ((i + j) + (i + j) + 2), fun w v => DecI w v (t.den : Int) ((i + j) + (i + j) + 2), fun w v => DecQ w v t (2 * (i + j) + 2)]
def ins_mulr : List Out := [⟨.agg [.s, .b, .s, .b], [(0, 0, 0), (0, 2, 1), (2, 2, 2)]⟩, ⟨.agg [.s, .b, .s, .b], [(0, 0, 3), (0, 2, 4), (2, 2, 5)]⟩]
def ss_mulr : List Site := [⟨85, [.fact 1, .fact 4], [⟨.agg [.s, .b], [(0, 0, 6)]⟩], false⟩,
      ⟨85, [.fact 2, .fact 5], [⟨.agg [.s, .b], [(0, 0, 7)]⟩], false⟩,
      ⟨26, [.fact 6, .fact 7], [⟨.agg [.s, .b, .s, .b], [(0, 0, 8), (0, 2, 9), (2, 2, 10)]⟩], false⟩]
set_option maxRecDepth 100000 in
theorem mulr {q r t : Rat} {i j : Nat} (hk : i + j ≤ 50000) (ht : q * r = t) : SiteOk (ph (phi_mulr q r t i j)) Tryz.prog ⟨73, [.fact 0, .fact 3], [⟨sS, [(0, 0, 11)]⟩], false⟩ :=
  fn_ok ins_mulr [⟨.agg [.s, .b, .s, .b], [(0, 0, 8)]⟩] ss_mulr Tryz.func73 (by kernel_rfl)
    (all_cons (tMul dD dD rfl (by omega) rfl)
      (all_cons (tMul dD dD rfl (by omega) rfl)
      (all_cons (tMake dD dD rfl rfl rfl (by omega) (by rw [← ht, mul_ref]))
      all_nil)))
    (ins_ok [.sub 0 (.agg [.s, .b, .s, .b]) [(0, 2, 1), (2, 2, 2)], .sub 3 (.agg [.s, .b, .s, .b]) [(0, 2, 4), (2, 2, 5)]] ⟨⟨fun _ _ h => DecQ.is h, fun _ _ h => DecQ.fst h, fun _ _ h => DecQ.snd h, trivial⟩, ⟨fun _ _ h => DecQ.is h, fun _ _ h => DecQ.fst h, fun _ _ h => DecQ.snd h, trivial⟩, trivial⟩) (out1 (weak fun _ _ h => DecQ.more h (by omega)))

set_option maxRecDepth 100000 in
theorem _root_.Go.Proofs.YtigkehblnlghkaaGreat.MulR_g {v u : Value} {q r : Rat} {i j : Nat} {w : World} (hx : DecQ w v q i) (hy : DecQ w u r j) {t : Rat} (hk : i + j ≤ 50000) (ht : q * r = t) : Calls Tryz.prog 73 #[v, u] w (GotS w t (2 * (i + j) + 2)) := by
  exact backS (mulr (q := q) (r := r) (i := i) (j := j) hk ht) rfl (vs := [v, u]) ⟨arg_kp rfl (fun _ _ _ g h => DecQ.kp h g) hx, arg_kp rfl (fun _ _ _ g h => DecQ.kp h g) hy, trivial⟩
theorem tMulR {p q x x1 x2 i j : Nat} {z : Rat} {y : Rat} {t : Rat} (hp : ∀ w v, Φ p w v → DecQ w v z i) (hq : ∀ w v, Φ q w v → DecQ w v y j) (hx : Φ x = fun w v => DecQ w v t (2 * (i + j) + 2)) (hx1 : Φ x1 = fun w v => DecI w v t.num (2 * (i + j) + 2)) (hx2 : Φ x2 = fun w v => DecI w v (t.den : Int) (2 * (i + j) + 2)) (hk : i + j ≤ 50000) (ht : z * y = t) : SiteOk Φ Tryz.prog ⟨73, [.fact p, .fact q], [⟨sS, [(0, 0, x), (0, 2, x1), (2, 2, x2)]⟩], false⟩ :=
  site2 fun _ _ _ _ h0 h1 => (MulR_g (hp _ _ (get h0)) (hq _ _ (get h1)) hk ht).mono fun _ _ h => pstS hx hx1 hx2 h
def phi_quor (q r t : Rat) (i j : Nat) : List (World → Value → Prop) := [fun w v => DecQ w v q i, fun w v => DecI w v q.num i, fun w v => DecI w v (q.den : Int) i, fun w v => DecQ w v r j, fun w v => DecI w v r.num j, fun w v => DecI w v (r.den : Int) j, fun w v => DecI w v (q.num * (r.den : Int)) (i + j), fun w v => DecI w v ((q.den : Int) * r.num) (i + j), fun w v => DecQ w v t ((i + j) + (i + j) + 2), fun w v => DecI w v t.num ((i + j) + (i + j) + 2), fun w v => DecI w v (t.den : Int) ((i + j) + (i + j) + 2), fun w v => DecQ w v t (2 * (i + j) + 2)]
def ins_quor : List Out := [⟨.agg [.s, .b, .s, .b], [(0, 0, 0), (0, 2, 1), (2, 2, 2)]⟩, ⟨.agg [.s, .b, .s, .b], [(0, 0, 3), (0, 2, 4), (2, 2, 5)]⟩]
def ss_quor : List Site := [⟨85, [.fact 1, .fact 5], [⟨.agg [.s, .b], [(0, 0, 6)]⟩], false⟩,
      ⟨85, [.fact 2, .fact 4], [⟨.agg [.s, .b], [(0, 0, 7)]⟩], false⟩,
      ⟨26, [.fact 6, .fact 7], [⟨.agg [.s, .b, .s, .b], [(0, 0, 8), (0, 2, 9), (2, 2, 10)]⟩], false⟩]
set_option maxRecDepth 100000 in
theorem quor {q r t : Rat} {i j : Nat} (hk : i + j ≤ 50000) (h0 : r ≠ 0) (ht : q / r = t) : SiteOk (ph (phi_quor q r t i j)) Tryz.prog ⟨87, [.fact 0, .fact 3], [⟨sS, [(0, 0, 11)]⟩], false⟩ :=
  fn_ok ins_quor [⟨.agg [.s, .b, .s, .b], [(0, 0, 8)]⟩] ss_quor Tryz.func87 (by kernel_rfl)
    (all_cons (tMul dD dD rfl (by omega) rfl)
      (all_cons (tMul dD dD rfl (by omega) rfl)
      (all_cons (tMake dD dD rfl rfl rfl (by omega) (by rw [← ht, quo_ref q h0]))
      all_nil)))
    (ins_ok [.sub 0 (.agg [.s, .b, .s, .b]) [(0, 2, 1), (2, 2, 2)], .sub 3 (.agg [.s, .b, .s, .b]) [(0, 2, 4), (2, 2, 5)]] ⟨⟨fun _ _ h => DecQ.is h, fun _ _ h => DecQ.fst h, fun _ _ h => DecQ.snd h, trivial⟩, ⟨fun _ _ h => DecQ.is h, fun _ _ h => DecQ.fst h, fun _ _ h => DecQ.snd h, trivial⟩, trivial⟩) (out1 (weak fun _ _ h => DecQ.more h (by omega)))

set_option maxRecDepth 100000 in
theorem _root_.Go.Proofs.YtigkehblnlghkaaGreat.QuoR_g {v u : Value} {q r : Rat} {i j : Nat} {w : World} (hx : DecQ w v q i) (hy : DecQ w u r j) {t : Rat} (hk : i + j ≤ 50000) (h0 : r ≠ 0) (ht : q / r = t) : Calls Tryz.prog 87 #[v, u] w (GotS w t (2 * (i + j) + 2)) := by
  exact backS (quor (q := q) (r := r) (i := i) (j := j) hk h0 ht) rfl (vs := [v, u]) ⟨arg_kp rfl (fun _ _ _ g h => DecQ.kp h g) hx, arg_kp rfl (fun _ _ _ g h => DecQ.kp h g) hy, trivial⟩
def phi_negr (q t : Rat) (i : Nat) : List (World → Value → Prop) := [fun w v => DecQ w v q i, fun w v => DecI w v q.num i, fun w v => DecI w v (q.den : Int) i, fun w v => DecI w v (-q.num) i, fun w v => DecQ w v t i]
def ins_negr : List Out := [⟨.agg [.s, .b, .s, .b], [(0, 0, 0), (0, 2, 1), (2, 2, 2)]⟩]
def ss_negr : List Site := [⟨76, [.fact 1], [⟨.agg [.s, .b], [(0, 0, 3)]⟩], false⟩]
set_option maxRecDepth 100000 in
theorem negr {q t : Rat} {i : Nat} (ht : -q = t) : SiteOk (ph (phi_negr q t i)) Tryz.prog ⟨86, [.fact 0], [⟨sS, [(0, 0, 4)]⟩], false⟩ :=
  fn_ok ins_negr [⟨.agg [.s, .b, .s, .b], [(0, 2, 3), (2, 2, 2)]⟩] ss_negr Tryz.func86 (by kernel_rfl)
    (all_cons (tNeg dD rfl rfl)
      all_nil)
    (ins_ok [.sub 0 (.agg [.s, .b, .s, .b]) [(0, 2, 1), (2, 2, 2)]] ⟨⟨fun _ _ h => DecQ.is h, fun _ _ h => DecQ.fst h, fun _ _ h => DecQ.snd h, trivial⟩, trivial⟩) (out1 (halves fun _ _ hs h1 h2 => DecQ.join hs (DecI.eqz h1 (by rw [← ht, Rat.neg_num])) (DecI.eqz h2 (by rw [← ht, Rat.neg_den]))))

set_option maxRecDepth 100000 in
theorem _root_.Go.Proofs.YtigkehblnlghkaaGreat.NegR_g {v : Value} {q : Rat} {i : Nat} {w : World} (hx : DecQ w v q i) {t : Rat} (ht : -q = t) : Calls Tryz.prog 86 #[v] w (GotS w t i) := by
  exact backS (negr ht) rfl (vs := [v]) ⟨arg_kp rfl (fun _ _ _ g h => DecQ.kp h g) hx, trivial⟩
theorem tNegR {p x x1 x2 i : Nat} {z : Rat} {t : Rat} (hp : ∀ w v, Φ p w v → DecQ w v z i) (hx : Φ x = fun w v => DecQ w v t i) (hx1 : Φ x1 = fun w v => DecI w v t.num i) (hx2 : Φ x2 = fun w v => DecI w v (t.den : Int) i) (ht : -z = t) : SiteOk Φ Tryz.prog ⟨86, [.fact p], [⟨sS, [(0, 0, x), (0, 2, x1), (2, 2, x2)]⟩], false⟩ :=
  site1 fun _ _ _ h0 => (NegR_g (hp _ _ (get h0)) ht).mono fun _ _ h => pstS hx hx1 hx2 h
theorem _root_.Go.Proofs.YtigkehblnlghkaaGreat.NorV.nor {w : World} {v : Value} {z : Int} {k : Nat} (h : NorV w v z k) : NorI w v z := h.1
theorem tSame {p q i j : Nat} {z y : Int} {r : Bool} (hp : ∀ w v, Φ p w v → DecI w v z i) (hq : ∀ w v, Φ q w v → NorV w v y j) (hk : i ≤ 1000000) (he : z = y) (hr : true = r) : SiteOk Φ Tryz.prog ⟨33, [.fact p, .fact q], [⟨.one (.lit (.cb r)), []⟩], false⟩ :=
  site2 fun _ _ _ _ h0 h1 => (hr ▸ Same_r (hp _ _ (get h0)) hk (he ▸ (hq _ _ (get h1)).1)).mono fun _ _ h => pstB h
theorem NorQ.fst {w : World} {v : Value} {q : Rat} {k : Nat} (h : NorQ w v q k) : NorV w (subV 0 2 v) q.num k := by obtain ⟨_, _, _, _, _, _, _, _, rfl, h1, _⟩ := h; exact h1
theorem NorQ.snd {w : World} {v : Value} {q : Rat} {k : Nat} (h : NorQ w v q k) : NorV w (subV 2 2 v) (q.den : Int) k := by obtain ⟨_, _, _, _, _, _, _, _, rfl, _, h2⟩ := h; exact h2
theorem _root_.Go.Proofs.YtigkehblnlghkaaGreat.take_sl {w : World} {p : Option Addr} {cap k m : Nat} {xs : List Nat} (hx : Sl w .u32 (.slice p xs.length cap) xs) (hm : (xs.take k).length = m) : Sl w .u32 (.slice p m cap) (xs.take k) := by
  have := hx.take (min xs.length k) (Nat.min_le_left _ _)
  rw [show xs.take (min xs.length k) = xs.take k by
    rcases Nat.le_total xs.length k with h | h
    · rw [Nat.min_eq_left h, List.take_length, List.take_of_length_le h]
    · rw [Nat.min_eq_right h]] at this
  rw [← hm, List.length_take, Nat.min_comm]
  exact this
theorem RawI.i {w : World} {v : Value} {b : Bool} {xs : List Nat} (k : Nat) (h : RawI w v b xs) (hk : xs.length ≤ k) : IntV w v (sg b (Proofs.YtigkehblnlghkaaGreat.val 4294967296 xs)) k := by
  obtain ⟨s, rfl, h1, h2⟩ := h
  exact ⟨_, _, _, rfl, Num.row h1 h2 k hk, rfl⟩
theorem sKIntR {p x x' : Nat} (k : Nat) {ki z : Int} {b : Bool} {xs : List Nat} (hki : (k : Int) = ki) (hp : ∀ w v, Φ p w v → RawI w v b xs) (hx : Φ x = fun w v => RawI w v b (xs.take k)) (hx' : Φ x' = fun w v => IntV w v z k) (hz : sg b (Proofs.YtigkehblnlghkaaGreat.val 4294967296 (xs.take k)) = z) : SiteOk Φ Tryz.prog ⟨52, [.fact p, .lit (.ci .i64 ki)], [⟨iS, [(0, 0, x), (0, 0, x')]⟩], false⟩ :=
  site2 fun _ w v u h0 h1 => by
    subst hki
    obtain rfl : u = .int .i64 k := h1
    obtain ⟨s, rfl, a1, a2⟩ := hp _ _ (get h0)
    obtain ⟨p, c, rfl, c1, -⟩ := id a1
    obtain ⟨m, hm⟩ : ∃ m, (xs.take k).length = m := ⟨_, rfl⟩
    refine (Int_k k c1 hm).mono fun e w' ⟨he, g⟩ => ⟨g, [_], he, ⟨iS_is, fun q hq w1 hw => ?_⟩, trivial⟩
    have r : RawI w1 (.agg #[.bool b, .slice p m c]) b (xs.take k) := RawI.kp ⟨_, rfl, (take_sl a1 hm).kp (Kp.of g), a2.take k⟩ hw.1
    simp only [List.mem_cons, List.not_mem_nil, or_false] at hq
    rcases hq with rfl | rfl
    · show Φ x w1 _; rw [hx]; exact r
    · show Φ x' w1 _; rw [hx']; exact hz ▸ RawI.i k r (by rw [List.length_take]; omega)
theorem RawQ.fst {w : World} {v : Value} {b b' : Bool} {xs ys : List Nat} (h : RawQ w v b xs b' ys) : RawI w (subV 0 2 v) b xs := by obtain ⟨s, s', rfl, h1, h2, h3, h4⟩ := h; exact ⟨_, rfl, h1, h2⟩
theorem RawQ.snd {w : World} {v : Value} {b b' : Bool} {xs ys : List Nat} (h : RawQ w v b xs b' ys) : RawI w (subV 2 2 v) b' ys := by obtain ⟨s, s', rfl, h1, h2, h3, h4⟩ := h; exact ⟨_, rfl, h3, h4⟩
theorem RawQ.join {w : World} {v : Value} {b b' : Bool} {xs ys : List Nat} (hs : qS.is v) (h1 : RawI w (subV 0 2 v) b xs) (h2 : RawI w (subV 2 2 v) b' ys) : RawQ w v b xs b' ys := by
  obtain ⟨vs, rfl, h⟩ := hs
  match vs, h with
  | [v0, v1, v2, v3], h =>
    obtain ⟨s, e, a1, a2⟩ := h1
    obtain ⟨s', e', a3, a4⟩ := h2
    have e1 : (Value.agg #[v0, v1]) = .agg #[.bool b, s] := e
    have e2 : (Value.agg #[v2, v3]) = .agg #[.bool b', s'] := e'
    simp only [Value.agg.injEq, Array.mk.injEq, List.cons.injEq, and_true] at e1 e2
    obtain ⟨rfl, rfl⟩ := e1
    obtain ⟨rfl, rfl⟩ := e2
    exact ⟨_, _, rfl, a1, a2, a3, a4⟩
theorem sKIntRJ {p q x x' : Nat} (k : Nat) {z : Int} {b : Bool} {xs : List Nat} (hp : ∀ w v, Φ p w v → RawI w v b xs) (hq : ∀ w v, Φ q w v → v = .int .i64 (k : Int)) (hx : Φ x = fun w v => RawI w v b (xs.take k)) (hx' : Φ x' = fun w v => IntV w v z k) (hz : sg b (Proofs.YtigkehblnlghkaaGreat.val 4294967296 (xs.take k)) = z) : SiteOk Φ Tryz.prog ⟨52, [.fact p, .fact q], [⟨iS, [(0, 0, x), (0, 0, x')]⟩], false⟩ := fun X w vs hX ha => by
  match vs, ha with
  | [v, u], ha =>
    exact sKIntR k rfl hp hx hx' hz X w [v, u] hX ⟨ha.1, hq _ _ (get ha.2.1), trivial⟩
def SlA (w : World) (v : Value) (xs : List Nat) : Prop := Sl w .u32 v xs ∧ All 4294967296 xs
theorem SlA.kp {w w' : World} {v : Value} {xs : List Nat} (h : SlA w v xs) (g : Kp w w') : SlA w' v xs := ⟨h.1.kp g, h.2⟩
theorem RawI.sl {w : World} {v : Value} {b : Bool} {xs : List Nat} (h : RawI w v b xs) : SlA w (subV 1 1 v) xs := by obtain ⟨s, rfl, h1, h2⟩ := h; exact ⟨h1, h2⟩
theorem RawQ.qv {w : World} {v : Value} {b b' : Bool} {xs ys : List Nat} (k : Nat) {z u : Int} (h : RawQ w v b xs b' ys) (h1 : xs.length ≤ k) (h2 : ys.length ≤ k) (hz : sg b (Proofs.YtigkehblnlghkaaGreat.val 4294967296 xs) = z) (hu : sg b' (Proofs.YtigkehblnlghkaaGreat.val 4294967296 ys) = u) : QV w v z u k :=
  QV.join (RawQ.is h) (hz ▸ RawI.i k (RawQ.fst h) h1) (hu ▸ RawI.i k (RawQ.snd h) h2) (Nat.le_refl _) (Nat.le_refl _)
end
end Go.Proofs.YtigkehblnlghkaaGreat.Sym
