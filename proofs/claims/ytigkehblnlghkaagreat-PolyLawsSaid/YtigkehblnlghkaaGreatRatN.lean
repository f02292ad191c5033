/- Ratio's functions by the symbolic walk. -/
import Derived.Test.YtigkehblnlghkaaGreatSymS
namespace Go.Proofs.YtigkehblnlghkaaGreat.Sym
open Go.RowKit
section
variable {Φ : Nat → World → Value → Prop}
theorem sRZero {p i : Nat} {z : Int} {r : Bool} (hp : ∀ w v, Φ p w v → IntV w v z i) (hk : i ≤ 1000000) (hr : decide (z = 0) = r) : SiteOk Φ Tryz.prog ⟨143, [.fact p], [⟨.one (.lit (.cb r)), []⟩], false⟩ :=
  site1 fun _ _ _ h0 => (zero_g (hp _ _ (get h0)) hk hr).mono fun _ _ h => pstB h
theorem neg_flag {w : World} {b : Bool} {s : Value} {z : Int} {k : Nat} (h : IntV w (.agg #[.bool b, s]) z k) (h0 : z ≠ 0) : b = decide (z < 0) := by
  obtain ⟨b2, s2, X, e, h4, h5⟩ := h
  simp only [Value.agg.injEq, Array.mk.injEq, List.cons.injEq, Value.bool.injEq, and_true] at e
  obtain ⟨rfl, -⟩ := e
  cases b
  · rw [h5]; simp [sg]
  · rw [h5] at h0 ⊢; simp [sg] at h0 ⊢; omega
/-- The sign of a number that is not 0. -/
theorem IntV.sg_is {w : World} {v : Value} {z : Int} {k : Nat} (b : Bool) (h : IntV w v z k) (h0 : z ≠ 0) (hb : decide (z < 0) = b) : (CSh.agg [.lit (.cb b), .s]).is v := by
  obtain ⟨b', p, n, c, rfl, h⟩ := h.open
  obtain rfl : b' = b := (neg_flag h h0).trans hb
  exact ⟨[.bool b', .slice p n c], rfl, rfl, ⟨_, _, _, rfl⟩, trivial⟩
theorem QV.sg_is {w : World} {v : Value} {z y : Int} {k : Nat} (b : Bool) (h : QV w v z y k) (h0 : y ≠ 0) (hb : decide (y < 0) = b) : (CSh.agg [.b, .s, .lit (.cb b), .s]).is v := by
  obtain ⟨b1, p, n, c, b', p', n', c', rfl, h1, h2⟩ := h
  obtain rfl : b' = b := (neg_flag h2 h0).trans hb
  exact ⟨[.bool b1, .slice p n c, .bool b', .slice p' n' c'], rfl, ⟨_, rfl⟩, ⟨_, _, _, rfl⟩, rfl, ⟨_, _, _, rfl⟩, trivial⟩
theorem part_of {w : World} {v : Value} {z y : Int} {i j : Nat} (e : y = z) (hi : i ≤ j) (h : IntV w v z i) : IntV w v y j := by
  rw [e]; exact h.more hi
def phi_parts_0 (z y : Int) (k : Nat) : List (World → Value → Prop) := [fun w v => QV w v z y k, fun w v => IntV w v z k, fun w v => IntV w v y k, fun w v => NorV w v (1 : Int) 2, fun w v => IntV w v (pN z y) (k + 2), fun w v => IntV w v (pD y) (k + 2)]
def ins_parts_0 : List Out := [⟨.agg [.b, .s, .b, .s], [(0, 0, 0), (0, 2, 1), (2, 2, 2)]⟩]
def ss_parts_0 : List Site := [⟨143, [.fact 2], [⟨.one (.lit (.cb true)), []⟩], false⟩,
      ⟨19, [.lit (.ci .i64 1)], [⟨.agg [.b, .s], [(0, 0, 3)]⟩], false⟩]
set_option maxRecDepth 100000 in
theorem parts_0 {z y : Int} {k : Nat} (hk : k ≤ 900000) (h0 : y = 0) : SiteOk (ph (phi_parts_0 z y k)) Tryz.prog ⟨132, [.fact 0], [⟨iS, [(0, 0, 4)]⟩, ⟨iS, [(0, 0, 5)]⟩], true⟩ :=
  fn_ok ins_parts_0 [⟨.agg [.b, .s], [(0, 0, 1)]⟩, ⟨.agg [.b, .s], [(0, 0, 3)]⟩] ss_parts_0 Tryz.func132 (by kernel_rfl)
    (all_cons (sRZero iI (by omega) (decide_eq_true h0))
      (all_cons (sOf (z := 1) rfl (by decide) (by decide) rfl)
      all_nil))
    (ins_ok [.sub 0 (.agg [.b, .s, .b, .s]) [(0, 2, 1), (2, 2, 2)]] ⟨⟨fun _ _ h => QV.is h, fun _ _ h => QV.fst h, fun _ _ h => QV.snd h, trivial⟩, trivial⟩) (out2 (weak fun _ _ h => part_of (by unfold pN; rw [if_neg (by omega)]) (by omega) h) (weak fun _ _ h => part_of (by unfold pD; rw [if_pos h0]) (by omega) h.i))

def phi_parts_m (z y : Int) (k : Nat) : List (World → Value → Prop) := [fun w v => QV w v z y k, fun w v => IntV w v z k, fun w v => IntV w v y k, fun w v => NorV w v (-z) k, fun w v => NorV w v (-y) k, fun w v => IntV w v (pN z y) (k + 2), fun w v => IntV w v (pD y) (k + 2)]
def ins_parts_m : List Out := [⟨.agg [.b, .s, .lit (.cb true), .s], [(0, 0, 0), (0, 2, 1), (2, 2, 2)]⟩]
def ss_parts_m : List Site := [⟨143, [.fact 2], [⟨.one (.lit (.cb false)), []⟩], false⟩,
      ⟨21, [.fact 1], [⟨.agg [.b, .s], [(0, 0, 3)]⟩], false⟩,
      ⟨21, [.fact 2], [⟨.agg [.b, .s], [(0, 0, 4)]⟩], false⟩]
set_option maxRecDepth 100000 in
theorem parts_m {z y : Int} {k : Nat} (hk : k ≤ 900000) (h0 : y < 0) : SiteOk (ph (phi_parts_m z y k)) Tryz.prog ⟨132, [.fact 0], [⟨iS, [(0, 0, 5)]⟩, ⟨iS, [(0, 0, 6)]⟩], true⟩ :=
  fn_ok ins_parts_m [⟨.agg [.b, .s], [(0, 0, 3)]⟩, ⟨.agg [.b, .s], [(0, 0, 4)]⟩] ss_parts_m Tryz.func132 (by kernel_rfl)
    (all_cons (sRZero iI (by omega) (decide_eq_false (by omega)))
      (all_cons (sNeg iI rfl (by omega) rfl)
      (all_cons (sNeg iI rfl (by omega) rfl)
      all_nil)))
    (ins_ok [.sub 0 (.agg [.b, .s, .lit (.cb true), .s]) [(0, 2, 1), (2, 2, 2)]] ⟨⟨fun _ _ h => QV.sg_is true h (by omega) (decide_eq_true h0), fun _ _ h => QV.fst h, fun _ _ h => QV.snd h, trivial⟩, trivial⟩) (out2 (weak fun _ _ h => part_of (by unfold pN; rw [if_pos h0]) (by omega) h.i) (weak fun _ _ h => part_of (by unfold pD; rw [if_neg (by omega), if_pos h0]) (by omega) h.i))

def phi_parts_p (z y : Int) (k : Nat) : List (World → Value → Prop) := [fun w v => QV w v z y k, fun w v => IntV w v z k, fun w v => IntV w v y k, fun w v => IntV w v (pN z y) (k + 2), fun w v => IntV w v (pD y) (k + 2)]
def ins_parts_p : List Out := [⟨.agg [.b, .s, .lit (.cb false), .s], [(0, 0, 0), (0, 2, 1), (2, 2, 2)]⟩]
def ss_parts_p : List Site := [⟨143, [.fact 2], [⟨.one (.lit (.cb false)), []⟩], false⟩]
set_option maxRecDepth 100000 in
theorem parts_p {z y : Int} {k : Nat} (hk : k ≤ 900000) (h0 : 0 < y) : SiteOk (ph (phi_parts_p z y k)) Tryz.prog ⟨132, [.fact 0], [⟨iS, [(0, 0, 3)]⟩, ⟨iS, [(0, 0, 4)]⟩], true⟩ :=
  fn_ok ins_parts_p [⟨.agg [.b, .s], [(0, 0, 1)]⟩, ⟨.agg [.b, .s], [(0, 0, 2)]⟩] ss_parts_p Tryz.func132 (by kernel_rfl)
    (all_cons (sRZero iI (by omega) (decide_eq_false (by omega)))
      all_nil)
    (ins_ok [.sub 0 (.agg [.b, .s, .lit (.cb false), .s]) [(0, 2, 1), (2, 2, 2)]] ⟨⟨fun _ _ h => QV.sg_is false h (by omega) (decide_eq_false (by omega)), fun _ _ h => QV.fst h, fun _ _ h => QV.snd h, trivial⟩, trivial⟩) (out2 (weak fun _ _ h => part_of (by unfold pN; rw [if_neg (by omega)]) (by omega) h) (weak fun _ _ h => part_of (by unfold pD; rw [if_neg (by omega), if_neg (by omega)]) (by omega) h))

/-- A contract of one walk serves any list of predicates. -/
theorem sParts {p x x' k : Nat} {z y : Int} (hp : ∀ w v, Φ p w v → QV w v z y k) (hx : Φ x = fun w v => IntV w v (pN z y) (k + 2)) (hx' : Φ x' = fun w v => IntV w v (pD y) (k + 2)) (hk : k ≤ 900000) : SiteOk Φ Tryz.prog ⟨132, [.fact p], [⟨iS, [(0, 0, x)]⟩, ⟨iS, [(0, 0, x')]⟩], true⟩ :=
  site1 fun _ w v h0 => by
    have h := hp _ _ (get h0)
    have key : Calls Tryz.prog 132 #[v] w (fun e w' => w.grownBy w' none ∧ ∃ u u', e = .returned (.tuple #[u, u']) ∧ IntV w' u (pN z y) (k + 2) ∧ IntV w' u' (pD y) (k + 2)) := by
      rcases Int.lt_trichotomy y 0 with hy | hy | hy
      · exact back2 (parts_m (z := z) (y := y) (k := k) hk hy) (vs := [v]) ⟨arg_kp rfl (fun _ _ _ g h => QV.kp h g) h, trivial⟩ fun u u' w' hg _ f1 _ f2 => ⟨hg, u, u', rfl, f1 _ (List.mem_singleton.2 rfl), f2 _ (List.mem_singleton.2 rfl)⟩
      · exact back2 (parts_0 (z := z) (y := y) (k := k) hk hy) (vs := [v]) ⟨arg_kp rfl (fun _ _ _ g h => QV.kp h g) h, trivial⟩ fun u u' w' hg _ f1 _ f2 => ⟨hg, u, u', rfl, f1 _ (List.mem_singleton.2 rfl), f2 _ (List.mem_singleton.2 rfl)⟩
      · exact back2 (parts_p (z := z) (y := y) (k := k) hk hy) (vs := [v]) ⟨arg_kp rfl (fun _ _ _ g h => QV.kp h g) h, trivial⟩ fun u u' w' hg _ f1 _ f2 => ⟨hg, u, u', rfl, f1 _ (List.mem_singleton.2 rfl), f2 _ (List.mem_singleton.2 rfl)⟩
    refine key.mono fun e w' ⟨hg, u, u', he, h1, h2⟩ => ⟨hg, [u, u'], he, ?_, ?_, trivial⟩
    · obtain ⟨b, p, n, c, rfl, h1⟩ := h1.open; exact outI hx rfl h1
    · obtain ⟨b, p, n, c, rfl, h2⟩ := h2.open; exact outI hx' rfl h2
def phi_lowest_m (z y : Int) (i j k : Nat) : List (World → Value → Prop) := [fun w v => IntV w v z i, fun w v => IntV w v y j, fun w v => NorV w v (Int.gcd z y : Int) k, fun w v => NorV w v (-(Int.gcd z y : Int)) k, fun w v => NorV w v ((Rat.divInt z y).num) i, fun w v => NorV w v ((Rat.divInt z y).den : Int) j, fun w v => NorQ w v (Rat.divInt z y) k]
def ins_lowest_m : List Out := [⟨.agg [.b, .s], [(0, 0, 0)]⟩, ⟨.agg [.lit (.cb true), .s], [(0, 0, 1)]⟩]
def ss_lowest_m : List Site := [⟨90, [.row 2 [0, 1]], [⟨.agg [.b, .s], [(0, 0, 2)]⟩], false⟩,
      ⟨21, [.fact 2], [⟨.agg [.b, .s], [(0, 0, 3)]⟩], false⟩,
      ⟨97, [.fact 0, .fact 3], [⟨.agg [.b, .s], [(0, 0, 4)]⟩, ⟨.one (.lit (.ci .i64 0)), []⟩], true⟩,
      ⟨97, [.fact 1, .fact 3], [⟨.agg [.b, .s], [(0, 0, 5)]⟩, ⟨.one (.lit (.ci .i64 0)), []⟩], true⟩]
set_option maxRecDepth 100000 in
theorem lowest_m {z y : Int} {i j k : Nat} (hi : i ≤ k) (hj : j ≤ k) (hk : k ≤ 400000) (h0 : y < 0) (eb : -(Int.gcd z y : Int) = byOf z y) : SiteOk (ph (phi_lowest_m z y i j k)) Tryz.prog ⟨131, [.fact 0, .fact 1], [⟨qS, [(0, 0, 6)]⟩], false⟩ :=
  fn_ok ins_lowest_m [⟨.agg [.b, .s, .b, .s], [(0, 2, 4), (2, 2, 5)]⟩] ss_lowest_m Tryz.func131 (by kernel_rfl)
    (all_cons (sGcd k iI iI rfl (by omega) (by omega) (by omega) rfl)
      (all_cons (sNeg nI rfl (by omega) rfl)
      (all_cons (sExact iI nI rfl (by omega) (by rw [eb]; exact byOf_ne (by omega)) (by rw [eb]; exact byOf_dvd_n z y) (by rw [eb]; exact num_by (by omega)))
      (all_cons (sExact iI nI rfl (by omega) (by rw [eb]; exact byOf_ne (by omega)) (by rw [eb]; exact byOf_dvd_d z y) (by rw [eb]; exact den_by (by omega)))
      all_nil))))
    (ins_ok [.fact 0 (.agg [.b, .s]), .fact 1 (.agg [.lit (.cb true), .s])] ⟨fun _ _ h => IntV.is h, fun _ _ h => IntV.sg_is true h (by omega) (decide_eq_true h0), trivial⟩) (out1 (halves fun _ _ hs h1 h2 => NorQ.join hs (NorV.more h1 (by omega)) (NorV.more h2 (by omega))))

def phi_lowest_p (z y : Int) (i j k : Nat) : List (World → Value → Prop) := [fun w v => IntV w v z i, fun w v => IntV w v y j, fun w v => NorV w v (Int.gcd z y : Int) k, fun w v => NorV w v ((Rat.divInt z y).num) i, fun w v => NorV w v ((Rat.divInt z y).den : Int) j, fun w v => NorQ w v (Rat.divInt z y) k]
def ins_lowest_p : List Out := [⟨.agg [.b, .s], [(0, 0, 0)]⟩, ⟨.agg [.lit (.cb false), .s], [(0, 0, 1)]⟩]
def ss_lowest_p : List Site := [⟨90, [.row 2 [0, 1]], [⟨.agg [.b, .s], [(0, 0, 2)]⟩], false⟩,
      ⟨97, [.fact 0, .fact 2], [⟨.agg [.b, .s], [(0, 0, 3)]⟩, ⟨.one (.lit (.ci .i64 0)), []⟩], true⟩,
      ⟨97, [.fact 1, .fact 2], [⟨.agg [.b, .s], [(0, 0, 4)]⟩, ⟨.one (.lit (.ci .i64 0)), []⟩], true⟩]
set_option maxRecDepth 100000 in
theorem lowest_p {z y : Int} {i j k : Nat} (hi : i ≤ k) (hj : j ≤ k) (hk : k ≤ 400000) (h0 : 0 < y) (eb : (Int.gcd z y : Int) = byOf z y) : SiteOk (ph (phi_lowest_p z y i j k)) Tryz.prog ⟨131, [.fact 0, .fact 1], [⟨qS, [(0, 0, 5)]⟩], false⟩ :=
  fn_ok ins_lowest_p [⟨.agg [.b, .s, .b, .s], [(0, 2, 3), (2, 2, 4)]⟩] ss_lowest_p Tryz.func131 (by kernel_rfl)
    (all_cons (sGcd k iI iI rfl (by omega) (by omega) (by omega) rfl)
      (all_cons (sExact iI nI rfl (by omega) (by rw [eb]; exact byOf_ne (by omega)) (by rw [eb]; exact byOf_dvd_n z y) (by rw [eb]; exact num_by (by omega)))
      (all_cons (sExact iI nI rfl (by omega) (by rw [eb]; exact byOf_ne (by omega)) (by rw [eb]; exact byOf_dvd_d z y) (by rw [eb]; exact den_by (by omega)))
      all_nil)))
    (ins_ok [.fact 0 (.agg [.b, .s]), .fact 1 (.agg [.lit (.cb false), .s])] ⟨fun _ _ h => IntV.is h, fun _ _ h => IntV.sg_is false h (by omega) (decide_eq_false (by omega)), trivial⟩) (out1 (halves fun _ _ hs h1 h2 => NorQ.join hs (NorV.more h1 (by omega)) (NorV.more h2 (by omega))))

theorem Lowest_g {v u : Value} {z y : Int} {t : Rat} {i j : Nat} (k : Nat) {w : World} (hz : IntV w v z i) (hy : IntV w u y j) (hi : i ≤ k) (hj : j ≤ k) (hk : k ≤ 400000) (h0 : y ≠ 0) (ht : Rat.divInt z y = t) : Calls Tryz.prog 131 #[v, u] w (GotQ w t k) := by
  subst ht
  rcases Int.lt_or_gt_of_ne h0 with h | h
  · exact backP (lowest_m hi hj hk h (by rw [byOf, if_pos h])) rfl (vs := [v, u]) ⟨arg_kp rfl (fun _ _ _ g h => IntV.kp h g) hz, arg_kp rfl (fun _ _ _ g h => IntV.kp h g) hy, trivial⟩
  · exact backP (lowest_p hi hj hk h (by rw [byOf, if_neg (by omega)])) rfl (vs := [v, u]) ⟨arg_kp rfl (fun _ _ _ g h => IntV.kp h g) hz, arg_kp rfl (fun _ _ _ g h => IntV.kp h g) hy, trivial⟩
theorem sLowest {p q x x1 x2 i j : Nat} {z y : Int} {t : Rat} (k : Nat) (hp : ∀ w v, Φ p w v → IntV w v z i) (hq : ∀ w v, Φ q w v → IntV w v y j) (hx : Φ x = fun w v => NorQ w v t k) (hx1 : Φ x1 = fun w v => NorV w v t.num k) (hx2 : Φ x2 = fun w v => NorV w v (t.den : Int) k) (hi : i ≤ k) (hj : j ≤ k) (hk : k ≤ 400000) (h0' : y ≠ 0) (ht : Rat.divInt z y = t) : SiteOk Φ Tryz.prog ⟨131, [.fact p, .fact q], [⟨qS, [(0, 0, x), (0, 2, x1), (2, 2, x2)]⟩], false⟩ :=
  site2 fun _ _ _ _ h0 h1 => (Lowest_g k (hp _ _ (get h0)) (hq _ _ (get h1)) hi hj hk h0' ht).mono fun _ _ h => pstP hx hx1 hx2 h
/-- .. its sign told. -/
def QVb (w : World) (v : Value) (b : Bool) (z y : Int) (k : Nat) : Prop := ∃ s b' s', v = .agg #[.bool b, s, .bool b', s'] ∧ Num w s z.natAbs k ∧ z = sg b z.natAbs ∧ IntV w (.agg #[.bool b', s']) y k
theorem QVb.kp {w w' : World} {v : Value} {b : Bool} {z y : Int} {k : Nat} (h : QVb w v b z y k) (g : Kp w w') : QVb w' v b z y k := by
  obtain ⟨s, b', s', h1, h2, h3, h4⟩ := h
  exact ⟨s, b', s', h1, h2.kp g, h3, h4.kp g⟩
theorem QV.vb {w : World} {v : Value} {z y : Int} {k : Nat} (h : QV w v z y k) : ∃ b, QVb w v b z y k := by
  obtain ⟨b, p, n, c, b', p', n', c', rfl, h1, h2⟩ := h
  obtain ⟨b1, s1, X, e, h3, h4⟩ := h1
  simp only [Value.agg.injEq, Array.mk.injEq, List.cons.injEq, Value.bool.injEq, and_true] at e
  obtain ⟨rfl, rfl⟩ := e
  have e2 : z.natAbs = X := by rw [h4]; exact sg_abs _ _
  exact ⟨b, _, b', _, rfl, by rw [e2]; exact h3, by rw [e2]; exact h4, h2⟩
theorem QVb.is {w : World} {v : Value} {b : Bool} {z y : Int} {k : Nat} (h : QVb w v b z y k) : (CSh.agg [.lit (.cb b), .s, .b, .s]).is v := by
  obtain ⟨s, b', s', rfl, h1, h2, h3⟩ := h
  obtain ⟨p, n, c, rfl⟩ := h1.slice
  obtain ⟨b2, p', n', c', e, h3⟩ := h3.open
  simp only [Value.agg.injEq, Array.mk.injEq, List.cons.injEq, Value.bool.injEq, and_true] at e
  obtain ⟨rfl, rfl⟩ := e
  exact ⟨[_, _, _, _], rfl, rfl, ⟨_, _, _, rfl⟩, ⟨_, rfl⟩, ⟨_, _, _, rfl⟩, trivial⟩
theorem QVb.num {w : World} {v : Value} {b : Bool} {z y : Int} {k : Nat} (h : QVb w v b z y k) : Num w (subV 1 1 v) z.natAbs k := by
  obtain ⟨s, b', s', rfl, h1, h2, h3⟩ := h; exact h1
theorem QVb.snd {w : World} {v : Value} {b : Bool} {z y : Int} {k : Nat} (h : QVb w v b z y k) : IntV w (subV 2 2 v) y k := by
  obtain ⟨s, b', s', rfl, h1, h2, h3⟩ := h; exact h3
theorem _root_.Go.Proofs.YtigkehblnlghkaaGreat.cmp_parts {n d m e : Int} (hd : 0 < d) (he : 0 < e) : cmpI (n * e) (m * d) = cmpQ (Rat.divInt n d) (Rat.divInt m e) := by
  unfold cmpI cmpQ
  simp only [lt_parts hd he, eq_parts hd he]
def phi_cmp_1 (z y z' y' t : Int) (i j : Nat) : List (World → Value → Prop) := [fun w v => QV w v z y i, fun w v => IntV w v z i, fun w v => IntV w v y i, fun w v => QV w v z' y' j, fun w v => IntV w v z' j, fun w v => IntV w v y' j, fun w v => IntV w v (pN z y) (i + 2), fun w v => IntV w v (pD y) (i + 2), fun w v => IntV w v (pN z' y') (j + 2), fun w v => IntV w v (pD y') (j + 2), fun w v => NorV w v ((pN z y) * (pD y')) ((i + 2) + (j + 2)), fun w v => NorV w v ((pN z' y') * (pD y)) ((j + 2) + (i + 2)), fun _ v => v = .int .i64 t]
def ins_cmp_1 : List Out := [⟨.agg [.b, .s, .b, .s], [(0, 0, 0), (0, 2, 1), (2, 2, 2)]⟩, ⟨.agg [.b, .s, .b, .s], [(0, 0, 3), (0, 2, 4), (2, 2, 5)]⟩]
def ss_cmp_1 : List Site := [⟨132, [.fact 0], [⟨.agg [.b, .s], [(0, 0, 6)]⟩, ⟨.agg [.b, .s], [(0, 0, 7)]⟩], true⟩,
      ⟨132, [.fact 3], [⟨.agg [.b, .s], [(0, 0, 8)]⟩, ⟨.agg [.b, .s], [(0, 0, 9)]⟩], true⟩,
      ⟨48, [.fact 6, .fact 9], [⟨.agg [.b, .s], [(0, 0, 10)]⟩], false⟩,
      ⟨48, [.fact 8, .fact 7], [⟨.agg [.b, .s], [(0, 0, 11)]⟩], false⟩,
      ⟨47, [.fact 10, .fact 11], [⟨.one (.i), [(0, 0, 12)]⟩], false⟩]
set_option maxRecDepth 100000 in
theorem cmp_1 {z y z' y' t : Int} {i j : Nat} (hk : i + j ≤ 100000) (ht : cmpQ (qOf z y) (qOf z' y') = t) : SiteOk (ph (phi_cmp_1 z y z' y' t i j)) Tryz.prog ⟨130, [.fact 0, .fact 3], [⟨.one (.i), [(0, 0, 12)]⟩], false⟩ :=
  fn_ok ins_cmp_1 [⟨.one (.i), [(0, 0, 12)]⟩] ss_cmp_1 Tryz.func130 (by kernel_rfl)
    (all_cons (sParts (fun _ _ h => h) rfl rfl (by omega))
      (all_cons (sParts (fun _ _ h => h) rfl rfl (by omega))
      (all_cons (sMul iI iI rfl (by omega) rfl)
      (all_cons (sMul iI iI rfl (by omega) rfl)
      (all_cons (sCmpJ nI nI rfl (by omega) (by rw [← ht, qOf_parts, qOf_parts, cmp_parts (pD_pos _) (pD_pos _)]))
      all_nil)))))
    (ins_ok [.sub 0 (.agg [.b, .s, .b, .s]) [(0, 2, 1), (2, 2, 2)], .sub 3 (.agg [.b, .s, .b, .s]) [(0, 2, 4), (2, 2, 5)]] ⟨⟨fun _ _ h => QV.is h, fun _ _ h => QV.fst h, fun _ _ h => QV.snd h, trivial⟩, ⟨fun _ _ h => QV.is h, fun _ _ h => QV.fst h, fun _ _ h => QV.snd h, trivial⟩, trivial⟩) (fun _ _ _ h => h)

set_option maxRecDepth 100000 in
theorem _root_.Go.Proofs.YtigkehblnlghkaaGreat.RCmp_g {v u : Value} {q r : Rat} {i j : Nat} {w : World} (hx : RatV w v q i) (hy : RatV w u r j) (t : Int) (hk : i + j ≤ 100000) (ht : cmpQ q r = t) : Calls Tryz.prog 130 #[v, u] w (fun e w' => e = .returned (.int .i64 t) ∧ w.grownBy w' none) := by
  obtain ⟨z, y, hX, rfl⟩ := RatV.qv hx
  obtain ⟨z', y', hY, rfl⟩ := RatV.qv hy
  exact back1 (cmp_1 hk ht) (vs := [v, u]) ⟨arg_kp rfl (fun _ _ _ g h => QV.kp h g) hX, arg_kp rfl (fun _ _ _ g h => QV.kp h g) hY, trivial⟩ fun u w' hg _ f => ⟨congrArg _ (f _ (List.mem_singleton.2 rfl)), hg⟩
end
end Go.Proofs.YtigkehblnlghkaaGreat.Sym
