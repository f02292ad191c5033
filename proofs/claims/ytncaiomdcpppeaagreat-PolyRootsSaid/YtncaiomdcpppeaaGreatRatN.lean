/- Ratio's functions by the symbolic walk. -/
import Derived.Test.YtncaiomdcpppeaaGreatSymS
namespace Go.Proofs.YtncaiomdcpppeaaGreat.Sym
open Go.RowKit
section
variable {Φ : Nat → World → Value → Prop}
theorem sRZero {p i : Nat} {z : Int} {r : Bool} (hp : ∀ w v, Φ p w v → IntV w v z i) (hk : i ≤ 1000000) (hr : decide (z = 0) = r) : SiteOk Φ Tryz.prog ⟨130, [.fact p], [⟨.one (.lit (.cb r)), []⟩], false⟩ :=
  site1 fun _ _ _ h0 => (zero_g (hp _ _ (get h0)) hk hr).mono fun _ _ h => pstB h
theorem neg_flag {w : World} {b : Bool} {s : Value} {z : Int} {k : Nat} (h : IntV w (.agg #[.bool b, s]) z k) (h0 : z ≠ 0) : b = decide (z < 0) := by
  obtain ⟨b2, s2, X, e, h4, h5⟩ := h
  simp only [Value.agg.injEq, Array.mk.injEq, List.cons.injEq, Value.bool.injEq, and_true] at e
  obtain ⟨rfl, -⟩ := e
  cases b
  · rw [h5]; simp [sg]
  · rw [h5] at h0 ⊢; simp [sg] at h0 ⊢; omega
/-- The sign of a number that is not 0. -/
theorem IntV.sg_is {w : World} {v : Value} {z : Int} {k : Nat} (b : Bool) (h : IntV w v z k) (h0 : z ≠ 0) (hb : decide (z < 0) = b) : (CSh.agg [.lit (.cb b), .s]).is v := by
  obtain ⟨b', p, n, c, rfl, h⟩ := h.open
  obtain rfl : b' = b := (neg_flag h h0).trans hb
  exact ⟨[.bool b', .slice p n c], rfl, rfl, ⟨_, _, _, rfl⟩, trivial⟩
theorem QV.sg_is {w : World} {v : Value} {z y : Int} {k : Nat} (b : Bool) (h : QV w v z y k) (h0 : y ≠ 0) (hb : decide (y < 0) = b) : (CSh.agg [.b, .s, .lit (.cb b), .s]).is v := by
  obtain ⟨b1, p, n, c, b', p', n', c', rfl, h1, h2⟩ := h
  obtain rfl : b' = b := (neg_flag h2 h0).trans hb
  exact ⟨[.bool b1, .slice p n c, .bool b', .slice p' n' c'], rfl, ⟨_, rfl⟩, ⟨_, _, _, rfl⟩, rfl, ⟨_, _, _, rfl⟩, trivial⟩
theorem part_of {w : World} {v : Value} {z y : Int} {i j : Nat} (e : y = z) (hi : i ≤ j) (h : IntV w v z i) : IntV w v y j := by
  rw [e]; exact h.more hi
def phi_parts_0 (z y : Int) (k : Nat) : List (World → Value → Prop) := [fun w v => QV w v z y k, fun w v => IntV w v z k, fun w v => IntV w v y k, fun w v => NorV w v (1 : Int) 2, fun w v => IntV w v (pN z y) (k + 2), fun w v => IntV w v (pD y) (k + 2)]
def ins_parts_0 : List Out := [⟨.agg [.b, .s, .b, .s], [(0, 0, 0), (0, 2, 1), (2, 2, 2)]⟩]
def ss_parts_0 : List Site := [⟨130, [.fact 2], [⟨.one (.lit (.cb true)), []⟩], false⟩,
      ⟨32, [.lit (.ci .i64 1)], [⟨.agg [.b, .s], [(0, 0, 3)]⟩], false⟩]
set_option maxRecDepth 100000 in
theorem parts_0 {z y : Int} {k : Nat} (hk : k ≤ 900000) (h0 : y = 0) : SiteOk (ph (phi_parts_0 z y k)) Tryz.prog ⟨102, [.fact 0], [⟨iS, [(0, 0, 4)]⟩, ⟨iS, [(0, 0, 5)]⟩], true⟩ :=
  fn_ok ins_parts_0 [⟨.agg [.b, .s], [(0, 0, 1)]⟩, ⟨.agg [.b, .s], [(0, 0, 3)]⟩] ss_parts_0 Tryz.func102 (by kernel_rfl)
    (all_cons (sRZero iI (by omega) (decide_eq_true h0))
      (all_cons (sOf (z := 1) rfl (by decide) (by decide) rfl)
      all_nil))
    (ins_ok [.sub 0 (.agg [.b, .s, .b, .s]) [(0, 2, 1), (2, 2, 2)]] ⟨⟨fun _ _ h => QV.is h, fun _ _ h => QV.fst h, fun _ _ h => QV.snd h, trivial⟩, trivial⟩) (out2 (weak fun _ _ h => part_of (by unfold pN; rw [if_neg (by omega)]) (by omega) h) (weak fun _ _ h => part_of (by unfold pD; rw [if_pos h0]) (by omega) h.i))

def phi_parts_m (z y : Int) (k : Nat) : List (World → Value → Prop) := [fun w v => QV w v z y k, fun w v => IntV w v z k, fun w v => IntV w v y k, fun w v => NorV w v (-z) k, fun w v => NorV w v (-y) k, fun w v => IntV w v (pN z y) (k + 2), fun w v => IntV w v (pD y) (k + 2)]
def ins_parts_m : List Out := [⟨.agg [.b, .s, .lit (.cb true), .s], [(0, 0, 0), (0, 2, 1), (2, 2, 2)]⟩]
def ss_parts_m : List Site := [⟨130, [.fact 2], [⟨.one (.lit (.cb false)), []⟩], false⟩,
      ⟨34, [.fact 1], [⟨.agg [.b, .s], [(0, 0, 3)]⟩], false⟩,
      ⟨34, [.fact 2], [⟨.agg [.b, .s], [(0, 0, 4)]⟩], false⟩]
set_option maxRecDepth 100000 in
theorem parts_m {z y : Int} {k : Nat} (hk : k ≤ 900000) (h0 : y < 0) : SiteOk (ph (phi_parts_m z y k)) Tryz.prog ⟨102, [.fact 0], [⟨iS, [(0, 0, 5)]⟩, ⟨iS, [(0, 0, 6)]⟩], true⟩ :=
  fn_ok ins_parts_m [⟨.agg [.b, .s], [(0, 0, 3)]⟩, ⟨.agg [.b, .s], [(0, 0, 4)]⟩] ss_parts_m Tryz.func102 (by kernel_rfl)
    (all_cons (sRZero iI (by omega) (decide_eq_false (by omega)))
      (all_cons (sNeg iI rfl (by omega) rfl)
      (all_cons (sNeg iI rfl (by omega) rfl)
      all_nil)))
    (ins_ok [.sub 0 (.agg [.b, .s, .lit (.cb true), .s]) [(0, 2, 1), (2, 2, 2)]] ⟨⟨fun _ _ h => QV.sg_is true h (by omega) (decide_eq_true h0), fun _ _ h => QV.fst h, fun _ _ h => QV.snd h, trivial⟩, trivial⟩) (out2 (weak fun _ _ h => part_of (by unfold pN; rw [if_pos h0]) (by omega) h.i) (weak fun _ _ h => part_of (by unfold pD; rw [if_neg (by omega), if_pos h0]) (by omega) h.i))

def phi_parts_p (z y : Int) (k : Nat) : List (World → Value → Prop) := [fun w v => QV w v z y k, fun w v => IntV w v z k, fun w v => IntV w v y k, fun w v => IntV w v (pN z y) (k + 2), fun w v => IntV w v (pD y) (k + 2)]
def ins_parts_p : List Out := [⟨.agg [.b, .s, .lit (.cb false), .s], [(0, 0, 0), (0, 2, 1), (2, 2, 2)]⟩]
def ss_parts_p : List Site := [⟨130, [.fact 2], [⟨.one (.lit (.cb false)), []⟩], false⟩]
set_option maxRecDepth 100000 in
theorem parts_p {z y : Int} {k : Nat} (hk : k ≤ 900000) (h0 : 0 < y) : SiteOk (ph (phi_parts_p z y k)) Tryz.prog ⟨102, [.fact 0], [⟨iS, [(0, 0, 3)]⟩, ⟨iS, [(0, 0, 4)]⟩], true⟩ :=
  fn_ok ins_parts_p [⟨.agg [.b, .s], [(0, 0, 1)]⟩, ⟨.agg [.b, .s], [(0, 0, 2)]⟩] ss_parts_p Tryz.func102 (by kernel_rfl)
    (all_cons (sRZero iI (by omega) (decide_eq_false (by omega)))
      all_nil)
    (ins_ok [.sub 0 (.agg [.b, .s, .lit (.cb false), .s]) [(0, 2, 1), (2, 2, 2)]] ⟨⟨fun _ _ h => QV.sg_is false h (by omega) (decide_eq_false (by omega)), fun _ _ h => QV.fst h, fun _ _ h => QV.snd h, trivial⟩, trivial⟩) (out2 (weak fun _ _ h => part_of (by unfold pN; rw [if_neg (by omega)]) (by omega) h) (weak fun _ _ h => part_of (by unfold pD; rw [if_neg (by omega), if_neg (by omega)]) (by omega) h))

/-- A contract of one walk serves any list of predicates. -/
theorem sParts {p x x' k : Nat} {z y : Int} (hp : ∀ w v, Φ p w v → QV w v z y k) (hx : Φ x = fun w v => IntV w v (pN z y) (k + 2)) (hx' : Φ x' = fun w v => IntV w v (pD y) (k + 2)) (hk : k ≤ 900000) : SiteOk Φ Tryz.prog ⟨102, [.fact p], [⟨iS, [(0, 0, x)]⟩, ⟨iS, [(0, 0, x')]⟩], true⟩ :=
  site1 fun _ w v h0 => by
    have h := hp _ _ (get h0)
    have key : Calls Tryz.prog 102 #[v] w (fun e w' => w.grownBy w' none ∧ ∃ u u', e = .returned (.tuple #[u, u']) ∧ IntV w' u (pN z y) (k + 2) ∧ IntV w' u' (pD y) (k + 2)) := by
      rcases Int.lt_trichotomy y 0 with hy | hy | hy
      · exact back2 (parts_m (z := z) (y := y) (k := k) hk hy) (vs := [v]) ⟨arg_kp rfl (fun _ _ _ g h => QV.kp h g) h, trivial⟩ fun u u' w' hg _ f1 _ f2 => ⟨hg, u, u', rfl, f1 _ (List.mem_singleton.2 rfl), f2 _ (List.mem_singleton.2 rfl)⟩
      · exact back2 (parts_0 (z := z) (y := y) (k := k) hk hy) (vs := [v]) ⟨arg_kp rfl (fun _ _ _ g h => QV.kp h g) h, trivial⟩ fun u u' w' hg _ f1 _ f2 => ⟨hg, u, u', rfl, f1 _ (List.mem_singleton.2 rfl), f2 _ (List.mem_singleton.2 rfl)⟩
      · exact back2 (parts_p (z := z) (y := y) (k := k) hk hy) (vs := [v]) ⟨arg_kp rfl (fun _ _ _ g h => QV.kp h g) h, trivial⟩ fun u u' w' hg _ f1 _ f2 => ⟨hg, u, u', rfl, f1 _ (List.mem_singleton.2 rfl), f2 _ (List.mem_singleton.2 rfl)⟩
    refine key.mono fun e w' ⟨hg, u, u', he, h1, h2⟩ => ⟨hg, [u, u'], he, ?_, ?_, trivial⟩
    · obtain ⟨b, p, n, c, rfl, h1⟩ := h1.open; exact outI hx rfl h1
    · obtain ⟨b, p, n, c, rfl, h2⟩ := h2.open; exact outI hx' rfl h2
def phi_lowest_m (z y : Int) (i j k : Nat) : List (World → Value → Prop) := [fun w v => IntV w v z i, fun w v => IntV w v y j, fun w v => NorV w v (Int.gcd z y : Int) k, fun w v => NorV w v (-(Int.gcd z y : Int)) k, fun w v => NorV w v ((Rat.divInt z y).num) i, fun w v => NorV w v ((Rat.divInt z y).den : Int) j, fun w v => NorQ w v (Rat.divInt z y) k]
def ins_lowest_m : List Out := [⟨.agg [.b, .s], [(0, 0, 0)]⟩, ⟨.agg [.lit (.cb true), .s], [(0, 0, 1)]⟩]
def ss_lowest_m : List Site := [⟨116, [.row 2 [0, 1]], [⟨.agg [.b, .s], [(0, 0, 2)]⟩], false⟩,
      ⟨34, [.fact 2], [⟨.agg [.b, .s], [(0, 0, 3)]⟩], false⟩,
      ⟨121, [.fact 0, .fact 3], [⟨.agg [.b, .s], [(0, 0, 4)]⟩, ⟨.one (.lit (.ci .i64 0)), []⟩], true⟩,
      ⟨121, [.fact 1, .fact 3], [⟨.agg [.b, .s], [(0, 0, 5)]⟩, ⟨.one (.lit (.ci .i64 0)), []⟩], true⟩]
set_option maxRecDepth 100000 in
theorem lowest_m {z y : Int} {i j k : Nat} (hi : i ≤ k) (hj : j ≤ k) (hk : k ≤ 400000) (h0 : y < 0) (eb : -(Int.gcd z y : Int) = byOf z y) : SiteOk (ph (phi_lowest_m z y i j k)) Tryz.prog ⟨103, [.fact 0, .fact 1], [⟨qS, [(0, 0, 6)]⟩], false⟩ :=
  fn_ok ins_lowest_m [⟨.agg [.b, .s, .b, .s], [(0, 2, 4), (2, 2, 5)]⟩] ss_lowest_m Tryz.func103 (by kernel_rfl)
    (all_cons (sGcd k iI iI rfl (by omega) (by omega) (by omega) rfl)
      (all_cons (sNeg nI rfl (by omega) rfl)
      (all_cons (sExact iI nI rfl (by omega) (by rw [eb]; exact byOf_ne (by omega)) (by rw [eb]; exact byOf_dvd_n z y) (by rw [eb]; exact num_by (by omega)))
      (all_cons (sExact iI nI rfl (by omega) (by rw [eb]; exact byOf_ne (by omega)) (by rw [eb]; exact byOf_dvd_d z y) (by rw [eb]; exact den_by (by omega)))
      all_nil))))
    (ins_ok [.fact 0 (.agg [.b, .s]), .fact 1 (.agg [.lit (.cb true), .s])] ⟨fun _ _ h => IntV.is h, fun _ _ h => IntV.sg_is true h (by omega) (decide_eq_true h0), trivial⟩) (out1 (halves fun _ _ hs h1 h2 => NorQ.join hs (NorV.more h1 (by omega)) (NorV.more h2 (by omega))))

def phi_lowest_p (z y : Int) (i j k : Nat) : List (World → Value → Prop) := [fun w v => IntV w v z i, fun w v => IntV w v y j, fun w v => NorV w v (Int.gcd z y : Int) k, fun w v => NorV w v ((Rat.divInt z y).num) i, fun w v => NorV w v ((Rat.divInt z y).den : Int) j, fun w v => NorQ w v (Rat.divInt z y) k]
def ins_lowest_p : List Out := [⟨.agg [.b, .s], [(0, 0, 0)]⟩, ⟨.agg [.lit (.cb false), .s], [(0, 0, 1)]⟩]
def ss_lowest_p : List Site := [⟨116, [.row 2 [0, 1]], [⟨.agg [.b, .s], [(0, 0, 2)]⟩], false⟩,
      ⟨121, [.fact 0, .fact 2], [⟨.agg [.b, .s], [(0, 0, 3)]⟩, ⟨.one (.lit (.ci .i64 0)), []⟩], true⟩,
      ⟨121, [.fact 1, .fact 2], [⟨.agg [.b, .s], [(0, 0, 4)]⟩, ⟨.one (.lit (.ci .i64 0)), []⟩], true⟩]
set_option maxRecDepth 100000 in
theorem lowest_p {z y : Int} {i j k : Nat} (hi : i ≤ k) (hj : j ≤ k) (hk : k ≤ 400000) (h0 : 0 < y) (eb : (Int.gcd z y : Int) = byOf z y) : SiteOk (ph (phi_lowest_p z y i j k)) Tryz.prog ⟨103, [.fact 0, .fact 1], [⟨qS, [(0, 0, 5)]⟩], false⟩ :=
  fn_ok ins_lowest_p [⟨.agg [.b, .s, .b, .s], [(0, 2, 3), (2, 2, 4)]⟩] ss_lowest_p Tryz.func103 (by kernel_rfl)
    (all_cons (sGcd k iI iI rfl (by omega) (by omega) (by omega) rfl)
      (all_cons (sExact iI nI rfl (by omega) (by rw [eb]; exact byOf_ne (by omega)) (by rw [eb]; exact byOf_dvd_n z y) (by rw [eb]; exact num_by (by omega)))
      (all_cons (sExact iI nI rfl (by omega) (by rw [eb]; exact byOf_ne (by omega)) (by rw [eb]; exact byOf_dvd_d z y) (by rw [eb]; exact den_by (by omega)))
      all_nil)))
    (ins_ok [.fact 0 (.agg [.b, .s]), .fact 1 (.agg [.lit (.cb false), .s])] ⟨fun _ _ h => IntV.is h, fun _ _ h => IntV.sg_is false h (by omega) (decide_eq_false (by omega)), trivial⟩) (out1 (halves fun _ _ hs h1 h2 => NorQ.join hs (NorV.more h1 (by omega)) (NorV.more h2 (by omega))))

theorem Lowest_g {v u : Value} {z y : Int} {t : Rat} {i j : Nat} (k : Nat) {w : World} (hz : IntV w v z i) (hy : IntV w u y j) (hi : i ≤ k) (hj : j ≤ k) (hk : k ≤ 400000) (h0 : y ≠ 0) (ht : Rat.divInt z y = t) : Calls Tryz.prog 103 #[v, u] w (GotQ w t k) := by
  subst ht
  rcases Int.lt_or_gt_of_ne h0 with h | h
  · exact backP (lowest_m hi hj hk h (by rw [byOf, if_pos h])) rfl (vs := [v, u]) ⟨arg_kp rfl (fun _ _ _ g h => IntV.kp h g) hz, arg_kp rfl (fun _ _ _ g h => IntV.kp h g) hy, trivial⟩
  · exact backP (lowest_p hi hj hk h (by rw [byOf, if_neg (by omega)])) rfl (vs := [v, u]) ⟨arg_kp rfl (fun _ _ _ g h => IntV.kp h g) hz, arg_kp rfl (fun _ _ _ g h => IntV.kp h g) hy, trivial⟩
theorem sLowest {p q x x1 x2 i j : Nat} {z y : Int} {t : Rat} (k : Nat) (hp : ∀ w v, Φ p w v → IntV w v z i) (hq : ∀ w v, Φ q w v → IntV w v y j) (hx : Φ x = fun w v => NorQ w v t k) (hx1 : Φ x1 = fun w v => NorV w v t.num k) (hx2 : Φ x2 = fun w v => NorV w v (t.den : Int) k) (hi : i ≤ k) (hj : j ≤ k) (hk : k ≤ 400000) (h0' : y ≠ 0) (ht : Rat.divInt z y = t) : SiteOk Φ Tryz.prog ⟨103, [.fact p, .fact q], [⟨qS, [(0, 0, x), (0, 2, x1), (2, 2, x2)]⟩], false⟩ :=
  site2 fun _ _ _ _ h0 h1 => (Lowest_g k (hp _ _ (get h0)) (hq _ _ (get h1)) hi hj hk h0' ht).mono fun _ _ h => pstP hx hx1 hx2 h
def phi_make_0 (z y : Int) (i j : Nat) : List (World → Value → Prop) := [fun w v => IntV w v z i, fun w v => IntV w v y j]
def ins_make_0 : List Out := [⟨.agg [.b, .s], [(0, 0, 0)]⟩, ⟨.agg [.b, .s], [(0, 0, 1)]⟩]
def ss_make_0 : List Site := [⟨130, [.fact 1], [⟨.one (.lit (.cb true)), []⟩], false⟩]
def phi_make_1 (z y : Int) (t : Rat) (i j : Nat) : List (World → Value → Prop) := [fun w v => IntV w v z i, fun w v => IntV w v y j, fun w v => NorQ w v t (i + j), fun w v => NorV w v t.num (i + j), fun w v => NorV w v (t.den : Int) (i + j)]
def ins_make_1 : List Out := [⟨.agg [.b, .s], [(0, 0, 0)]⟩, ⟨.agg [.b, .s], [(0, 0, 1)]⟩]
def ss_make_1 : List Site := [⟨130, [.fact 1], [⟨.one (.lit (.cb false)), []⟩], false⟩,
      ⟨103, [.fact 0, .fact 1], [⟨.agg [.b, .s, .b, .s], [(0, 0, 2), (0, 2, 3), (2, 2, 4)]⟩], false⟩]
set_option maxRecDepth 100000 in
theorem make_1 {z y : Int} {t : Rat} {i j : Nat} (hk : i + j ≤ 200000) (h0 : y ≠ 0) (ht : Rat.divInt z y = t) : SiteOk (ph (phi_make_1 z y t i j)) Tryz.prog ⟨78, [.fact 0, .fact 1], [⟨.agg [.b, .s, .b, .s], [(0, 0, 2)]⟩, ⟨.one (.lit (.ci .i64 0)), []⟩], true⟩ :=
  fn_ok ins_make_1 [⟨.agg [.b, .s, .b, .s], [(0, 0, 2)]⟩, ⟨.one (.lit (.ci .i64 0)), []⟩] ss_make_1 Tryz.func78 (by kernel_rfl)
    (all_cons (sRZero iI (by omega) (decide_eq_false h0))
      (all_cons (sLowest (i + j) iI iI rfl rfl rfl (by omega) (by omega) (by omega) h0 ht)
      all_nil))
    (ins_ok [.fact 0 (.agg [.b, .s]), .fact 1 (.agg [.b, .s])] ⟨fun _ _ h => IntV.is h, fun _ _ h => IntV.is h, trivial⟩) (fun _ _ _ h => h)

def _root_.Go.Proofs.YtncaiomdcpppeaaGreat.ErrQ (w : World) (k : Int) (e : Ending) (w' : World) : Prop := e = .returned (.tuple #[.agg #[.bool false, .slice none 0 0, .bool false, .slice none 0 0], .int .i64 k]) ∧ w.grownBy w' none
set_option maxRecDepth 100000 in
theorem _root_.Go.Proofs.YtncaiomdcpppeaaGreat.RMake_g {v u : Value} {z y : Int} {i j : Nat} {w : World} (hz : IntV w v z i) (hy : IntV w u y j) {t : Rat} (hk : i + j ≤ 200000) (h0 : y ≠ 0) (ht : Rat.divInt z y = t) : Calls Tryz.prog 78 #[v, u] w (GotQE w t (i + j)) := by
  exact backPE (make_1 hk h0 ht) rfl (vs := [v, u]) ⟨arg_kp rfl (fun _ _ _ g h => IntV.kp h g) hz, arg_kp rfl (fun _ _ _ g h => IntV.kp h g) hy, trivial⟩
theorem sRMake {p q x x1 x2 i j : Nat} {z : Int} {y : Int} {t : Rat} (hp : ∀ w v, Φ p w v → IntV w v z i) (hq : ∀ w v, Φ q w v → IntV w v y j) (hx : Φ x = fun w v => NorQ w v t (i + j)) (hx1 : Φ x1 = fun w v => NorV w v t.num (i + j)) (hx2 : Φ x2 = fun w v => NorV w v (t.den : Int) (i + j)) (hk : i + j ≤ 200000) (h0' : y ≠ 0) (ht : Rat.divInt z y = t) : SiteOk Φ Tryz.prog ⟨78, [.fact p, .fact q], [⟨qS, [(0, 0, x), (0, 2, x1), (2, 2, x2)]⟩, ⟨.one (.lit (.ci .i64 0)), []⟩], true⟩ :=
  site2 fun _ _ _ _ h0 h1 => (RMake_g (hp _ _ (get h0)) (hq _ _ (get h1)) hk h0' ht).mono fun _ _ h => pstPE hx hx1 hx2 h
def phi_of_1 (x y : Int) (t : Rat) : List (World → Value → Prop) := [fun _ v => v = .int .i64 x, fun _ v => v = .int .i64 y, fun w v => NorV w v x 2, fun w v => NorV w v y 2, fun w v => NorQ w v t (2 + 2), fun w v => NorV w v t.num (2 + 2), fun w v => NorV w v (t.den : Int) (2 + 2)]
def ins_of_1 : List Out := [⟨.one (.i), [(0, 0, 0)]⟩, ⟨.one (.i), [(0, 0, 1)]⟩]
def ss_of_1 : List Site := [⟨32, [.fact 0], [⟨.agg [.b, .s], [(0, 0, 2)]⟩], false⟩,
      ⟨32, [.fact 1], [⟨.agg [.b, .s], [(0, 0, 3)]⟩], false⟩,
      ⟨78, [.fact 2, .fact 3], [⟨.agg [.b, .s, .b, .s], [(0, 0, 4), (0, 2, 5), (2, 2, 6)]⟩, ⟨.one (.lit (.ci .i64 0)), []⟩], true⟩]
set_option maxRecDepth 100000 in
theorem of_1 {x y : Int} {t : Rat} (x1 : -9223372036854775808 ≤ x) (x2 : x ≤ 9223372036854775807) (y1 : -9223372036854775808 ≤ y) (y2 : y ≤ 9223372036854775807) (h0 : y ≠ 0) (ht : Rat.divInt x y = t) : SiteOk (ph (phi_of_1 x y t)) Tryz.prog ⟨38, [.fact 0, .fact 1], [⟨.agg [.b, .s, .b, .s], [(0, 0, 4)]⟩, ⟨.one (.lit (.ci .i64 0)), []⟩], true⟩ :=
  fn_ok ins_of_1 [⟨.agg [.b, .s, .b, .s], [(0, 0, 4)]⟩, ⟨.one (.lit (.ci .i64 0)), []⟩] ss_of_1 Tryz.func38 (by kernel_rfl)
    (all_cons (sOfJ (fun _ _ h => h) rfl x1 x2 rfl)
      (all_cons (sOfJ (fun _ _ h => h) rfl y1 y2 rfl)
      (all_cons (sRMake nI nI rfl rfl rfl (by omega) h0 ht)
      all_nil)))
    (ins_ok [.fact 0 (.one (.i)), .fact 1 (.one (.i))] ⟨fun _ _ h => ⟨⟨_, h⟩, fun _ e => by rw [h] at e; cases e⟩, fun _ _ h => ⟨⟨_, h⟩, fun _ e => by rw [h] at e; cases e⟩, trivial⟩) (fun _ _ _ h => h)

def phi_of_0 (x y : Int) : List (World → Value → Prop) := [fun _ v => v = .int .i64 x, fun _ v => v = .int .i64 y, fun w v => NorV w v x 2, fun w v => NorV w v y 2]
def ins_of_0 : List Out := [⟨.one (.i), [(0, 0, 0)]⟩, ⟨.one (.i), [(0, 0, 1)]⟩]
def ss_of_0 : List Site := [⟨32, [.fact 0], [⟨.agg [.b, .s], [(0, 0, 2)]⟩], false⟩,
      ⟨32, [.fact 1], [⟨.agg [.b, .s], [(0, 0, 3)]⟩], false⟩,
      ⟨78, [.fact 2, .fact 3], [⟨.agg [.lit (.cb false), .lit (.nl), .lit (.cb false), .lit (.nl)], []⟩, ⟨.one (.lit (.ci .i64 2)), []⟩], true⟩]
set_option maxRecDepth 100000 in
theorem _root_.Go.Proofs.YtncaiomdcpppeaaGreat.ROf_g (x y : Int) {t : Rat} {w : World} (x1 : -9223372036854775808 ≤ x) (x2 : x ≤ 9223372036854775807) (y1 : -9223372036854775808 ≤ y) (y2 : y ≤ 9223372036854775807) (h0 : y ≠ 0) (ht : Rat.divInt x y = t) : Calls Tryz.prog 38 #[.int .i64 x, .int .i64 y] w (GotQE w t 4) := by
  exact backPE (of_1 x1 x2 y1 y2 h0 ht) rfl (vs := [.int .i64 x, .int .i64 y]) ⟨fun _ _ => rfl, fun _ _ => rfl, trivial⟩
theorem int_num (z : Int) : (z : Rat).num = z := by simp
theorem int_den (z : Int) : (((z : Rat).den : Nat) : Int) = 1 := by simp
def phi_int_1 (z : Int) (i : Nat) : List (World → Value → Prop) := [fun w v => IntV w v z i, fun w v => NorV w v z i, fun w v => NorV w v (1 : Int) 2, fun w v => NorQ w v (z : Rat) (i + 2)]
def ins_int_1 : List Out := [⟨.agg [.b, .s], [(0, 0, 0)]⟩]
def ss_int_1 : List Site := [⟨84, [.fact 0], [⟨.agg [.b, .s], [(0, 0, 1)]⟩], false⟩,
      ⟨32, [.lit (.ci .i64 1)], [⟨.agg [.b, .s], [(0, 0, 2)]⟩], false⟩]
set_option maxRecDepth 100000 in
theorem int_1 {z : Int} {i : Nat} (hk : i ≤ 200000) : SiteOk (ph (phi_int_1 z i)) Tryz.prog ⟨43, [.fact 0], [⟨qS, [(0, 0, 3)]⟩], false⟩ :=
  fn_ok ins_int_1 [⟨.agg [.b, .s, .b, .s], [(0, 2, 1), (2, 2, 2)]⟩] ss_int_1 Tryz.func43 (by kernel_rfl)
    (all_cons (sNorm iI rfl (by omega) rfl)
      (all_cons (sOf (z := 1) rfl (by decide) (by decide) rfl)
      all_nil))
    (ins_ok [.fact 0 (.agg [.b, .s])] ⟨fun _ _ h => IntV.is h, trivial⟩) (out1 (halves fun _ _ hs h1 h2 => NorQ.join hs (NorV.more (NorV.eq h1 (int_num z).symm) (by omega)) (NorV.more (NorV.eq h2 (int_den z).symm) (by omega))))

set_option maxRecDepth 100000 in
theorem _root_.Go.Proofs.YtncaiomdcpppeaaGreat.RInt_g {v : Value} {z : Int} {i : Nat} {w : World} (hz : IntV w v z i) (hk : i ≤ 200000) : Calls Tryz.prog 43 #[v] w (GotQ w (z : Rat) (i + 2)) := by
  exact backP (int_1 hk) rfl (vs := [v]) ⟨arg_kp rfl (fun _ _ _ g h => IntV.kp h g) hz, trivial⟩
def phi_added_1 (z y z' y' : Int) (i j : Nat) : List (World → Value → Prop) := [fun w v => QV w v z y i, fun w v => IntV w v z i, fun w v => IntV w v y i, fun w v => QV w v z' y' j, fun w v => IntV w v z' j, fun w v => IntV w v y' j, fun w v => IntV w v (pN z y) (i + 2), fun w v => IntV w v (pD y) (i + 2), fun w v => IntV w v (pN z' y') (j + 2), fun w v => IntV w v (pD y') (j + 2), fun w v => NorV w v ((pN z y) * (pD y')) ((i + 2) + (j + 2)), fun w v => NorV w v ((pN z' y') * (pD y)) ((j + 2) + (i + 2)), fun w v => NorV w v (((pN z y) * (pD y')) + ((pN z' y') * (pD y))) (((i + 2) + (j + 2)) + ((j + 2) + (i + 2)) + 1), fun w v => NorV w v ((pD y) * (pD y')) ((i + 2) + (j + 2)), fun w v => IntV w v (pN z y * pD y' + pN z' y' * pD y) (2 * (i + j) + 9), fun w v => IntV w v (pD y * pD y') (2 * (i + j) + 9)]
def ins_added_1 : List Out := [⟨.agg [.b, .s, .b, .s], [(0, 0, 0), (0, 2, 1), (2, 2, 2)]⟩, ⟨.agg [.b, .s, .b, .s], [(0, 0, 3), (0, 2, 4), (2, 2, 5)]⟩]
def ss_added_1 : List Site := [⟨102, [.fact 0], [⟨.agg [.b, .s], [(0, 0, 6)]⟩, ⟨.agg [.b, .s], [(0, 0, 7)]⟩], true⟩,
      ⟨102, [.fact 3], [⟨.agg [.b, .s], [(0, 0, 8)]⟩, ⟨.agg [.b, .s], [(0, 0, 9)]⟩], true⟩,
      ⟨65, [.fact 6, .fact 9], [⟨.agg [.b, .s], [(0, 0, 10)]⟩], false⟩,
      ⟨65, [.fact 8, .fact 7], [⟨.agg [.b, .s], [(0, 0, 11)]⟩], false⟩,
      ⟨88, [.fact 10, .fact 11], [⟨.agg [.b, .s], [(0, 0, 12)]⟩], false⟩,
      ⟨65, [.fact 7, .fact 9], [⟨.agg [.b, .s], [(0, 0, 13)]⟩], false⟩]
set_option maxRecDepth 100000 in
theorem added_1 {z y z' y' : Int} {i j : Nat} (hk : i + j ≤ 200000) : SiteOk (ph (phi_added_1 z y z' y' i j)) Tryz.prog ⟨104, [.fact 0, .fact 3], [⟨iS, [(0, 0, 14)]⟩, ⟨iS, [(0, 0, 15)]⟩], true⟩ :=
  fn_ok ins_added_1 [⟨.agg [.b, .s], [(0, 0, 12)]⟩, ⟨.agg [.b, .s], [(0, 0, 13)]⟩] ss_added_1 Tryz.func104 (by kernel_rfl)
    (all_cons (sParts (fun _ _ h => h) rfl rfl (by omega))
      (all_cons (sParts (fun _ _ h => h) rfl rfl (by omega))
      (all_cons (sMul iI iI rfl (by omega) rfl)
      (all_cons (sMul iI iI rfl (by omega) rfl)
      (all_cons (sAdd nI nI rfl (by omega) rfl)
      (all_cons (sMul iI iI rfl (by omega) rfl)
      all_nil))))))
    (ins_ok [.sub 0 (.agg [.b, .s, .b, .s]) [(0, 2, 1), (2, 2, 2)], .sub 3 (.agg [.b, .s, .b, .s]) [(0, 2, 4), (2, 2, 5)]] ⟨⟨fun _ _ h => QV.is h, fun _ _ h => QV.fst h, fun _ _ h => QV.snd h, trivial⟩, ⟨fun _ _ h => QV.is h, fun _ _ h => QV.fst h, fun _ _ h => QV.snd h, trivial⟩, trivial⟩) (out2 (weak fun _ _ h => (NorV.i h).more (by omega)) (weak fun _ _ h => (NorV.i h).more (by omega)))

theorem sAdded {p q x x' i j : Nat} {z y z' y' : Int} (hp : ∀ w v, Φ p w v → QV w v z y i) (hq : ∀ w v, Φ q w v → QV w v z' y' j) (hx : Φ x = fun w v => IntV w v (pN z y * pD y' + pN z' y' * pD y) (2 * (i + j) + 9)) (hx' : Φ x' = fun w v => IntV w v (pD y * pD y') (2 * (i + j) + 9)) (hk : i + j ≤ 200000) : SiteOk Φ Tryz.prog ⟨104, [.fact p, .fact q], [⟨iS, [(0, 0, x)]⟩, ⟨iS, [(0, 0, x')]⟩], true⟩ :=
  site2 fun _ w v u h0 h1 => back2 (added_1 (z := z) (y := y) (z' := z') (y' := y') hk) (vs := [v, u]) ⟨arg_kp rfl (fun _ _ _ g h => QV.kp h g) (hp _ _ (get h0)), arg_kp rfl (fun _ _ _ g h => QV.kp h g) (hq _ _ (get h1)), trivial⟩ fun a b w' hg _ f1 _ f2 => by
    have h1 : IntV w' a (pN z y * pD y' + pN z' y' * pD y) (2 * (i + j) + 9) := f1 _ (List.mem_singleton.2 rfl)
    have h2 : IntV w' b (pD y * pD y') (2 * (i + j) + 9) := f2 _ (List.mem_singleton.2 rfl)
    refine ⟨hg, [a, b], rfl, ?_, ?_, trivial⟩
    · obtain ⟨b', p, n, c, rfl, h1⟩ := h1.open; exact outI hx rfl h1
    · obtain ⟨b', p, n, c, rfl, h2⟩ := h2.open; exact outI hx' rfl h2
def phi_add_1 (z y z' y' : Int) (t : Rat) (i j : Nat) : List (World → Value → Prop) := [fun w v => QV w v z y i, fun w v => IntV w v z i, fun w v => IntV w v y i, fun w v => QV w v z' y' j, fun w v => IntV w v z' j, fun w v => IntV w v y' j, fun w v => IntV w v (pN z y * pD y' + pN z' y' * pD y) (2 * (i + j) + 9), fun w v => IntV w v (pD y * pD y') (2 * (i + j) + 9), fun w v => NorQ w v t (2 * (i + j) + 9), fun w v => NorV w v t.num (2 * (i + j) + 9), fun w v => NorV w v (t.den : Int) (2 * (i + j) + 9)]
def ins_add_1 : List Out := [⟨.agg [.b, .s, .b, .s], [(0, 0, 0), (0, 2, 1), (2, 2, 2)]⟩, ⟨.agg [.b, .s, .b, .s], [(0, 0, 3), (0, 2, 4), (2, 2, 5)]⟩]
def ss_add_1 : List Site := [⟨104, [.fact 0, .fact 3], [⟨.agg [.b, .s], [(0, 0, 6)]⟩, ⟨.agg [.b, .s], [(0, 0, 7)]⟩], true⟩,
      ⟨103, [.fact 6, .fact 7], [⟨.agg [.b, .s, .b, .s], [(0, 0, 8), (0, 2, 9), (2, 2, 10)]⟩], false⟩]
set_option maxRecDepth 100000 in
theorem add_1 {z y z' y' : Int} {t : Rat} {i j : Nat} (hk : i + j ≤ 100000) (ht : qOf z y + qOf z' y' = t) : SiteOk (ph (phi_add_1 z y z' y' t i j)) Tryz.prog ⟨44, [.fact 0, .fact 3], [⟨.agg [.b, .s, .b, .s], [(0, 0, 8)]⟩], false⟩ :=
  fn_ok ins_add_1 [⟨.agg [.b, .s, .b, .s], [(0, 0, 8)]⟩] ss_add_1 Tryz.func44 (by kernel_rfl)
    (all_cons (sAdded (fun _ _ h => h) (fun _ _ h => h) rfl rfl (by omega))
      (all_cons (sLowest (2 * (i + j) + 9) iI iI rfl rfl rfl (by omega) (by omega) (by omega) (Int.mul_ne_zero (pD_ne _) (pD_ne _)) (by rw [← ht, qOf_parts, qOf_parts, add_parts (pD_pos _) (pD_pos _)]))
      all_nil))
    (ins_ok [.sub 0 (.agg [.b, .s, .b, .s]) [(0, 2, 1), (2, 2, 2)], .sub 3 (.agg [.b, .s, .b, .s]) [(0, 2, 4), (2, 2, 5)]] ⟨⟨fun _ _ h => QV.is h, fun _ _ h => QV.fst h, fun _ _ h => QV.snd h, trivial⟩, ⟨fun _ _ h => QV.is h, fun _ _ h => QV.fst h, fun _ _ h => QV.snd h, trivial⟩, trivial⟩) (fun _ _ _ h => h)

set_option maxRecDepth 100000 in
theorem _root_.Go.Proofs.YtncaiomdcpppeaaGreat.RAdd_g {v u : Value} {q r : Rat} {i j : Nat} {w : World} (hx : RatV w v q i) (hy : RatV w u r j) {t : Rat} (hk : i + j ≤ 100000) (ht : q + r = t) : Calls Tryz.prog 44 #[v, u] w (GotQ w t (2 * (i + j) + 9)) := by
  obtain ⟨z, y, hX, rfl⟩ := RatV.qv hx
  obtain ⟨z', y', hY, rfl⟩ := RatV.qv hy
  exact backP (add_1 (z := z) (y := y) (z' := z') (y' := y') (i := i) (j := j) hk ht) rfl (vs := [v, u]) ⟨arg_kp rfl (fun _ _ _ g h => QV.kp h g) hX, arg_kp rfl (fun _ _ _ g h => QV.kp h g) hY, trivial⟩
theorem sRAdd {p q x x1 x2 i j : Nat} {z : Rat} {y : Rat} {t : Rat} (hp : ∀ w v, Φ p w v → RatV w v z i) (hq : ∀ w v, Φ q w v → RatV w v y j) (hx : Φ x = fun w v => NorQ w v t (2 * (i + j) + 9)) (hx1 : Φ x1 = fun w v => NorV w v t.num (2 * (i + j) + 9)) (hx2 : Φ x2 = fun w v => NorV w v (t.den : Int) (2 * (i + j) + 9)) (hk : i + j ≤ 100000) (ht : z + y = t) : SiteOk Φ Tryz.prog ⟨44, [.fact p, .fact q], [⟨qS, [(0, 0, x), (0, 2, x1), (2, 2, x2)]⟩], false⟩ :=
  site2 fun _ _ _ _ h0 h1 => (RAdd_g (hp _ _ (get h0)) (hq _ _ (get h1)) hk ht).mono fun _ _ h => pstP hx hx1 hx2 h
/-- .. its sign told. -/
def QVb (w : World) (v : Value) (b : Bool) (z y : Int) (k : Nat) : Prop := ∃ s b' s', v = .agg #[.bool b, s, .bool b', s'] ∧ Num w s z.natAbs k ∧ z = sg b z.natAbs ∧ IntV w (.agg #[.bool b', s']) y k
theorem QVb.kp {w w' : World} {v : Value} {b : Bool} {z y : Int} {k : Nat} (h : QVb w v b z y k) (g : Kp w w') : QVb w' v b z y k := by
  obtain ⟨s, b', s', h1, h2, h3, h4⟩ := h
  exact ⟨s, b', s', h1, h2.kp g, h3, h4.kp g⟩
theorem QV.vb {w : World} {v : Value} {z y : Int} {k : Nat} (h : QV w v z y k) : ∃ b, QVb w v b z y k := by
  obtain ⟨b, p, n, c, b', p', n', c', rfl, h1, h2⟩ := h
  obtain ⟨b1, s1, X, e, h3, h4⟩ := h1
  simp only [Value.agg.injEq, Array.mk.injEq, List.cons.injEq, Value.bool.injEq, and_true] at e
  obtain ⟨rfl, rfl⟩ := e
  have e2 : z.natAbs = X := by rw [h4]; exact sg_abs _ _
  exact ⟨b, _, b', _, rfl, by rw [e2]; exact h3, by rw [e2]; exact h4, h2⟩
theorem QVb.is {w : World} {v : Value} {b : Bool} {z y : Int} {k : Nat} (h : QVb w v b z y k) : (CSh.agg [.lit (.cb b), .s, .b, .s]).is v := by
  obtain ⟨s, b', s', rfl, h1, h2, h3⟩ := h
  obtain ⟨p, n, c, rfl⟩ := h1.slice
  obtain ⟨b2, p', n', c', e, h3⟩ := h3.open
  simp only [Value.agg.injEq, Array.mk.injEq, List.cons.injEq, Value.bool.injEq, and_true] at e
  obtain ⟨rfl, rfl⟩ := e
  exact ⟨[_, _, _, _], rfl, rfl, ⟨_, _, _, rfl⟩, ⟨_, rfl⟩, ⟨_, _, _, rfl⟩, trivial⟩
theorem QVb.num {w : World} {v : Value} {b : Bool} {z y : Int} {k : Nat} (h : QVb w v b z y k) : Num w (subV 1 1 v) z.natAbs k := by
  obtain ⟨s, b', s', rfl, h1, h2, h3⟩ := h; exact h1
theorem QVb.snd {w : World} {v : Value} {b : Bool} {z y : Int} {k : Nat} (h : QVb w v b z y k) : IntV w (subV 2 2 v) y k := by
  obtain ⟨s, b', s', rfl, h1, h2, h3⟩ := h; exact h3
def phi_minus_t (z y : Int) (k : Nat) : List (World → Value → Prop) := [fun w v => QVb w v true z y k, fun w v => Num w v z.natAbs k, fun w v => IntV w v y k, fun w v => QV w v (-z) y k]
def ins_minus_t : List Out := [⟨.agg [.lit (.cb true), .s, .b, .s], [(0, 0, 0), (1, 1, 1), (2, 2, 2)]⟩]
def ss_minus_t : List Site := []
def phi_minus_f (z y : Int) (k : Nat) : List (World → Value → Prop) := [fun w v => QVb w v false z y k, fun w v => Num w v z.natAbs k, fun w v => IntV w v y k, fun w v => QV w v (-z) y k]
def ins_minus_f : List Out := [⟨.agg [.lit (.cb false), .s, .b, .s], [(0, 0, 0), (1, 1, 1), (2, 2, 2)]⟩]
def ss_minus_f : List Site := []
def phi_sub_1 (z y z' y' : Int) (t : Rat) (i j : Nat) : List (World → Value → Prop) := [fun w v => QV w v z y i, fun w v => IntV w v z i, fun w v => IntV w v y i, fun w v => QV w v z' y' j, fun w v => IntV w v z' j, fun w v => IntV w v y' j, fun w v => QV w v (-z') y' j, fun w v => NorQ w v t (2 * (i + j) + 9), fun w v => NorV w v t.num (2 * (i + j) + 9), fun w v => NorV w v (t.den : Int) (2 * (i + j) + 9)]
def ins_sub_1 : List Out := [⟨.agg [.b, .s, .b, .s], [(0, 0, 0), (0, 2, 1), (2, 2, 2)]⟩, ⟨.agg [.b, .s, .b, .s], [(0, 0, 3), (0, 2, 4), (2, 2, 5)]⟩]
def phi_mul_1 (z y z' y' : Int) (t : Rat) (i j : Nat) : List (World → Value → Prop) := [fun w v => QV w v z y i, fun w v => IntV w v z i, fun w v => IntV w v y i, fun w v => QV w v z' y' j, fun w v => IntV w v z' j, fun w v => IntV w v y' j, fun w v => IntV w v (pN z y) (i + 2), fun w v => IntV w v (pD y) (i + 2), fun w v => IntV w v (pN z' y') (j + 2), fun w v => IntV w v (pD y') (j + 2), fun w v => NorV w v ((pN z y) * (pN z' y')) ((i + 2) + (j + 2)), fun w v => NorV w v ((pD y) * (pD y')) ((i + 2) + (j + 2)), fun w v => NorQ w v t (i + j + 4), fun w v => NorV w v t.num (i + j + 4), fun w v => NorV w v (t.den : Int) (i + j + 4)]
def ins_mul_1 : List Out := [⟨.agg [.b, .s, .b, .s], [(0, 0, 0), (0, 2, 1), (2, 2, 2)]⟩, ⟨.agg [.b, .s, .b, .s], [(0, 0, 3), (0, 2, 4), (2, 2, 5)]⟩]
def ss_mul_1 : List Site := [⟨102, [.fact 0], [⟨.agg [.b, .s], [(0, 0, 6)]⟩, ⟨.agg [.b, .s], [(0, 0, 7)]⟩], true⟩,
      ⟨102, [.fact 3], [⟨.agg [.b, .s], [(0, 0, 8)]⟩, ⟨.agg [.b, .s], [(0, 0, 9)]⟩], true⟩,
      ⟨65, [.fact 6, .fact 8], [⟨.agg [.b, .s], [(0, 0, 10)]⟩], false⟩,
      ⟨65, [.fact 7, .fact 9], [⟨.agg [.b, .s], [(0, 0, 11)]⟩], false⟩,
      ⟨103, [.fact 10, .fact 11], [⟨.agg [.b, .s, .b, .s], [(0, 0, 12), (0, 2, 13), (2, 2, 14)]⟩], false⟩]
set_option maxRecDepth 100000 in
theorem mul_1 {z y z' y' : Int} {t : Rat} {i j : Nat} (hk : i + j ≤ 100000) (ht : qOf z y * qOf z' y' = t) : SiteOk (ph (phi_mul_1 z y z' y' t i j)) Tryz.prog ⟨42, [.fact 0, .fact 3], [⟨.agg [.b, .s, .b, .s], [(0, 0, 12)]⟩], false⟩ :=
  fn_ok ins_mul_1 [⟨.agg [.b, .s, .b, .s], [(0, 0, 12)]⟩] ss_mul_1 Tryz.func42 (by kernel_rfl)
    (all_cons (sParts (fun _ _ h => h) rfl rfl (by omega))
      (all_cons (sParts (fun _ _ h => h) rfl rfl (by omega))
      (all_cons (sMul iI iI rfl (by omega) rfl)
      (all_cons (sMul iI iI rfl (by omega) rfl)
      (all_cons (sLowest (i + j + 4) nI nI rfl rfl rfl (by omega) (by omega) (by omega) (Int.mul_ne_zero (pD_ne _) (pD_ne _)) (by rw [← ht, qOf_parts, qOf_parts, mul_parts]))
      all_nil)))))
    (ins_ok [.sub 0 (.agg [.b, .s, .b, .s]) [(0, 2, 1), (2, 2, 2)], .sub 3 (.agg [.b, .s, .b, .s]) [(0, 2, 4), (2, 2, 5)]] ⟨⟨fun _ _ h => QV.is h, fun _ _ h => QV.fst h, fun _ _ h => QV.snd h, trivial⟩, ⟨fun _ _ h => QV.is h, fun _ _ h => QV.fst h, fun _ _ h => QV.snd h, trivial⟩, trivial⟩) (fun _ _ _ h => h)

set_option maxRecDepth 100000 in
theorem _root_.Go.Proofs.YtncaiomdcpppeaaGreat.RMul_g {v u : Value} {q r : Rat} {i j : Nat} {w : World} (hx : RatV w v q i) (hy : RatV w u r j) {t : Rat} (hk : i + j ≤ 100000) (ht : q * r = t) : Calls Tryz.prog 42 #[v, u] w (GotQ w t (i + j + 4)) := by
  obtain ⟨z, y, hX, rfl⟩ := RatV.qv hx
  obtain ⟨z', y', hY, rfl⟩ := RatV.qv hy
  exact backP (mul_1 (z := z) (y := y) (z' := z') (y' := y') (i := i) (j := j) hk ht) rfl (vs := [v, u]) ⟨arg_kp rfl (fun _ _ _ g h => QV.kp h g) hX, arg_kp rfl (fun _ _ _ g h => QV.kp h g) hY, trivial⟩
def phi_neg_1 (z y : Int) (t : Rat) (i : Nat) : List (World → Value → Prop) := [fun w v => QV w v z y i, fun w v => IntV w v z i, fun w v => IntV w v y i, fun w v => QV w v (-z) y i, fun w v => IntV w v (pN (-z) y) (i + 2), fun w v => IntV w v (pD y) (i + 2), fun w v => NorQ w v t (i + 2), fun w v => NorV w v t.num (i + 2), fun w v => NorV w v (t.den : Int) (i + 2)]
def ins_neg_1 : List Out := [⟨.agg [.b, .s, .b, .s], [(0, 0, 0), (0, 2, 1), (2, 2, 2)]⟩]
def phi_mid_1 (z y z' y' : Int) (t : Rat) (i j : Nat) : List (World → Value → Prop) := [fun w v => QV w v z y i, fun w v => IntV w v z i, fun w v => IntV w v y i, fun w v => QV w v z' y' j, fun w v => IntV w v z' j, fun w v => IntV w v y' j, fun w v => IntV w v (pN z y * pD y' + pN z' y' * pD y) (2 * (i + j) + 9), fun w v => IntV w v (pD y * pD y') (2 * (i + j) + 9), fun w v => NorV w v ((pD y * pD y') + (pD y * pD y')) ((2 * (i + j) + 9) + (2 * (i + j) + 9) + 1), fun w v => NorQ w v t (6 * (i + j) + 28), fun w v => NorV w v t.num (6 * (i + j) + 28), fun w v => NorV w v (t.den : Int) (6 * (i + j) + 28)]
def ins_mid_1 : List Out := [⟨.agg [.b, .s, .b, .s], [(0, 0, 0), (0, 2, 1), (2, 2, 2)]⟩, ⟨.agg [.b, .s, .b, .s], [(0, 0, 3), (0, 2, 4), (2, 2, 5)]⟩]
def ss_mid_1 : List Site := [⟨104, [.fact 0, .fact 3], [⟨.agg [.b, .s], [(0, 0, 6)]⟩, ⟨.agg [.b, .s], [(0, 0, 7)]⟩], true⟩,
      ⟨88, [.fact 7, .fact 7], [⟨.agg [.b, .s], [(0, 0, 8)]⟩], false⟩,
      ⟨103, [.fact 6, .fact 8], [⟨.agg [.b, .s, .b, .s], [(0, 0, 9), (0, 2, 10), (2, 2, 11)]⟩], false⟩]
def phi_quo_1 (z y z' y' : Int) (t : Rat) (i j : Nat) : List (World → Value → Prop) := [fun w v => QV w v z y i, fun w v => IntV w v z i, fun w v => IntV w v y i, fun w v => QV w v z' y' j, fun w v => IntV w v z' j, fun w v => IntV w v y' j, fun w v => IntV w v (pN z y) (i + 2), fun w v => IntV w v (pD y) (i + 2), fun w v => IntV w v (pN z' y') (j + 2), fun w v => IntV w v (pD y') (j + 2), fun w v => NorV w v ((pN z y) * (pD y')) ((i + 2) + (j + 2)), fun w v => NorV w v ((pD y) * (pN z' y')) ((i + 2) + (j + 2)), fun w v => NorQ w v t (((i + 2) + (j + 2)) + ((i + 2) + (j + 2))), fun w v => NorV w v t.num (((i + 2) + (j + 2)) + ((i + 2) + (j + 2))), fun w v => NorV w v (t.den : Int) (((i + 2) + (j + 2)) + ((i + 2) + (j + 2))), fun w v => NorQ w v t (2 * (i + j) + 8)]
def ins_quo_1 : List Out := [⟨.agg [.b, .s, .b, .s], [(0, 0, 0), (0, 2, 1), (2, 2, 2)]⟩, ⟨.agg [.b, .s, .b, .s], [(0, 0, 3), (0, 2, 4), (2, 2, 5)]⟩]
def ss_quo_1 : List Site := [⟨102, [.fact 0], [⟨.agg [.b, .s], [(0, 0, 6)]⟩, ⟨.agg [.b, .s], [(0, 0, 7)]⟩], true⟩,
      ⟨102, [.fact 3], [⟨.agg [.b, .s], [(0, 0, 8)]⟩, ⟨.agg [.b, .s], [(0, 0, 9)]⟩], true⟩,
      ⟨65, [.fact 6, .fact 9], [⟨.agg [.b, .s], [(0, 0, 10)]⟩], false⟩,
      ⟨65, [.fact 7, .fact 8], [⟨.agg [.b, .s], [(0, 0, 11)]⟩], false⟩,
      ⟨78, [.fact 10, .fact 11], [⟨.agg [.b, .s, .b, .s], [(0, 0, 12), (0, 2, 13), (2, 2, 14)]⟩, ⟨.one (.lit (.ci .i64 0)), []⟩], true⟩]
def phi_quo_0 (z y z' y' : Int) (i j : Nat) : List (World → Value → Prop) := [fun w v => QV w v z y i, fun w v => IntV w v z i, fun w v => IntV w v y i, fun w v => QV w v z' y' j, fun w v => IntV w v z' j, fun w v => IntV w v y' j, fun w v => IntV w v (pN z y) (i + 2), fun w v => IntV w v (pD y) (i + 2), fun w v => IntV w v (pN z' y') (j + 2), fun w v => IntV w v (pD y') (j + 2), fun w v => NorV w v ((pN z y) * (pD y')) ((i + 2) + (j + 2)), fun w v => NorV w v ((pD y) * (pN z' y')) ((i + 2) + (j + 2))]
def ins_quo_0 : List Out := [⟨.agg [.b, .s, .b, .s], [(0, 0, 0), (0, 2, 1), (2, 2, 2)]⟩, ⟨.agg [.b, .s, .b, .s], [(0, 0, 3), (0, 2, 4), (2, 2, 5)]⟩]
def ss_quo_0 : List Site := [⟨102, [.fact 0], [⟨.agg [.b, .s], [(0, 0, 6)]⟩, ⟨.agg [.b, .s], [(0, 0, 7)]⟩], true⟩,
      ⟨102, [.fact 3], [⟨.agg [.b, .s], [(0, 0, 8)]⟩, ⟨.agg [.b, .s], [(0, 0, 9)]⟩], true⟩,
      ⟨65, [.fact 6, .fact 9], [⟨.agg [.b, .s], [(0, 0, 10)]⟩], false⟩,
      ⟨65, [.fact 7, .fact 8], [⟨.agg [.b, .s], [(0, 0, 11)]⟩], false⟩,
      ⟨78, [.fact 10, .fact 11], [⟨.agg [.lit (.cb false), .lit (.nl), .lit (.cb false), .lit (.nl)], []⟩, ⟨.one (.lit (.ci .i64 2)), []⟩], true⟩]
def phi_floor_1 (z y t : Int) (i : Nat) : List (World → Value → Prop) := [fun w v => QV w v z y i, fun w v => IntV w v z i, fun w v => IntV w v y i, fun w v => IntV w v (pN z y) (i + 2), fun w v => IntV w v (pD y) (i + 2), fun w v => NorV w v t ((i + 2) + 2), fun w v => NorV w v (pN z y % pD y) (i + 2)]
def ins_floor_1 : List Out := [⟨.agg [.b, .s, .b, .s], [(0, 0, 0), (0, 2, 1), (2, 2, 2)]⟩]
def ss_floor_1 : List Site := [⟨102, [.fact 0], [⟨.agg [.b, .s], [(0, 0, 3)]⟩, ⟨.agg [.b, .s], [(0, 0, 4)]⟩], true⟩,
      ⟨146, [.fact 3, .fact 4], [⟨.agg [.b, .s], [(0, 0, 5)]⟩, ⟨.agg [.b, .s], [(0, 0, 6)]⟩, ⟨.one (.lit (.ci .i64 0)), []⟩], true⟩]
theorem _root_.Go.Proofs.YtncaiomdcpppeaaGreat.cmp_parts {n d m e : Int} (hd : 0 < d) (he : 0 < e) : cmpI (n * e) (m * d) = cmpQ (Rat.divInt n d) (Rat.divInt m e) := by
  unfold cmpI cmpQ
  simp only [lt_parts hd he, eq_parts hd he]
def phi_cmp_1 (z y z' y' t : Int) (i j : Nat) : List (World → Value → Prop) := [fun w v => QV w v z y i, fun w v => IntV w v z i, fun w v => IntV w v y i, fun w v => QV w v z' y' j, fun w v => IntV w v z' j, fun w v => IntV w v y' j, fun w v => IntV w v (pN z y) (i + 2), fun w v => IntV w v (pD y) (i + 2), fun w v => IntV w v (pN z' y') (j + 2), fun w v => IntV w v (pD y') (j + 2), fun w v => NorV w v ((pN z y) * (pD y')) ((i + 2) + (j + 2)), fun w v => NorV w v ((pN z' y') * (pD y)) ((j + 2) + (i + 2)), fun _ v => v = .int .i64 t]
def ins_cmp_1 : List Out := [⟨.agg [.b, .s, .b, .s], [(0, 0, 0), (0, 2, 1), (2, 2, 2)]⟩, ⟨.agg [.b, .s, .b, .s], [(0, 0, 3), (0, 2, 4), (2, 2, 5)]⟩]
def ss_cmp_1 : List Site := [⟨102, [.fact 0], [⟨.agg [.b, .s], [(0, 0, 6)]⟩, ⟨.agg [.b, .s], [(0, 0, 7)]⟩], true⟩,
      ⟨102, [.fact 3], [⟨.agg [.b, .s], [(0, 0, 8)]⟩, ⟨.agg [.b, .s], [(0, 0, 9)]⟩], true⟩,
      ⟨65, [.fact 6, .fact 9], [⟨.agg [.b, .s], [(0, 0, 10)]⟩], false⟩,
      ⟨65, [.fact 8, .fact 7], [⟨.agg [.b, .s], [(0, 0, 11)]⟩], false⟩,
      ⟨64, [.fact 10, .fact 11], [⟨.one (.i), [(0, 0, 12)]⟩], false⟩]
set_option maxRecDepth 100000 in
theorem cmp_1 {z y z' y' t : Int} {i j : Nat} (hk : i + j ≤ 100000) (ht : cmpQ (qOf z y) (qOf z' y') = t) : SiteOk (ph (phi_cmp_1 z y z' y' t i j)) Tryz.prog ⟨45, [.fact 0, .fact 3], [⟨.one (.i), [(0, 0, 12)]⟩], false⟩ :=
  fn_ok ins_cmp_1 [⟨.one (.i), [(0, 0, 12)]⟩] ss_cmp_1 Tryz.func45 (by kernel_rfl)
    (all_cons (sParts (fun _ _ h => h) rfl rfl (by omega))
      (all_cons (sParts (fun _ _ h => h) rfl rfl (by omega))
      (all_cons (sMul iI iI rfl (by omega) rfl)
      (all_cons (sMul iI iI rfl (by omega) rfl)
      (all_cons (sCmpJ nI nI rfl (by omega) (by rw [← ht, qOf_parts, qOf_parts, cmp_parts (pD_pos _) (pD_pos _)]))
      all_nil)))))
    (ins_ok [.sub 0 (.agg [.b, .s, .b, .s]) [(0, 2, 1), (2, 2, 2)], .sub 3 (.agg [.b, .s, .b, .s]) [(0, 2, 4), (2, 2, 5)]] ⟨⟨fun _ _ h => QV.is h, fun _ _ h => QV.fst h, fun _ _ h => QV.snd h, trivial⟩, ⟨fun _ _ h => QV.is h, fun _ _ h => QV.fst h, fun _ _ h => QV.snd h, trivial⟩, trivial⟩) (fun _ _ _ h => h)

set_option maxRecDepth 100000 in
theorem _root_.Go.Proofs.YtncaiomdcpppeaaGreat.RCmp_g {v u : Value} {q r : Rat} {i j : Nat} {w : World} (hx : RatV w v q i) (hy : RatV w u r j) (t : Int) (hk : i + j ≤ 100000) (ht : cmpQ q r = t) : Calls Tryz.prog 45 #[v, u] w (fun e w' => e = .returned (.int .i64 t) ∧ w.grownBy w' none) := by
  obtain ⟨z, y, hX, rfl⟩ := RatV.qv hx
  obtain ⟨z', y', hY, rfl⟩ := RatV.qv hy
  exact back1 (cmp_1 hk ht) (vs := [v, u]) ⟨arg_kp rfl (fun _ _ _ g h => QV.kp h g) hX, arg_kp rfl (fun _ _ _ g h => QV.kp h g) hY, trivial⟩ fun u w' hg _ f => ⟨congrArg _ (f _ (List.mem_singleton.2 rfl)), hg⟩
end
end Go.Proofs.YtncaiomdcpppeaaGreat.Sym
