/- poly.value, Sign, Ends. -/
import Derived.Test.YtigkehblnlghkaaGreatPolY
import Derived.Test.YtigkehblnlghkaaGreatRatL
namespace Go.Proofs.YtigkehblnlghkaaGreat.Sym
open Go.RowKit
section
variable {P : Program} {Φ : Nat → World → Value → Prop} {p q x y : Nat}
end
theorem tl_idem (z : Nat → Int) (n : Nat) : tl z (tl z n) = tl z n := by
  cases h : tl z n with
  | zero => rfl
  | succ k =>
    have := tl_last z n (by omega)
    rw [h] at this
    unfold tl
    rw [if_neg (by simpa using this)]
/-- Horner's sums: numerators. -/
def hN (z : Nat → Int) (m : Nat) (u d : Int) : Nat → Int
  | 0 => if m = 0 then 0 else z (m - 1)
  | j + 1 => hN z m u d j * u + z (m - 2 - j) * d ^ (j + 1)
theorem lead_hN (u d : Int) {z : Nat → Int} {n : Nat} : ldZ z (tl z n) = hN z (tl z n) u d 0 := by
  unfold ldZ hN
  rw [tl_idem]
section
variable {Φ : Nat → World → Value → Prop} {p q x x1 x2 n n0 K m k i N : Nat} {z : Nat → Int}
theorem sISignJ {z t : Int} (hp : ∀ w v, Φ p w v → NorV w v z i) (hx : Φ x = fun _ v => v = .int .i64 t) (ht : cmpI z 0 = t := by rfl) : SiteOk Φ Tryz.prog ⟨46, [.fact p], [⟨.one .i, [(0, 0, x)]⟩], false⟩ :=
  site1 fun _ _ _ h0 => (Sign_z t (hp _ _ (get h0)).1 ht).mono fun _ _ h => pstJ hx h
theorem sMax1 {t : Rat} (hp : ∀ w v, Φ p w v → RatV w v t K) (hx : Φ x = fun w v => NorQ w v t (K + 2)) (hx1 : Φ x1 = fun w v => NorV w v t.num (K + 2)) (hx2 : Φ x2 = fun w v => NorV w v (t.den : Int) (K + 2)) (hK : K ≤ 40000) : SiteOk Φ Tryz.prog ⟨110, [.fact p, .lit .nl], [⟨qS, [(0, 0, x), (0, 2, x1), (2, 2, x2)]⟩], false⟩ := fun X w vs hX ha => by
  match vs, ha with
  | [v, u], ha =>
    obtain ⟨z, y, hq, rfl⟩ := RatV.qv (hp _ _ (ha.1 w (Off.refl _ _)))
    obtain rfl : u = .slice none 0 0 := ha.2.1
    refine (sMaxA (Φ := ph [fun w v => QV w v z y K, fun w v => Arr 4 (fun i w v => QV w v ((fun _ => 0) i) ((fun _ => 0) i) K) 0 w v, fun w v => NorQ w v (qOf z y) (K + 2), fun w v => NorV w v (qOf z y).num (K + 2), fun w v => NorV w v ((qOf z y).den : Int) (K + 2)]) (p := 0) (q := 1) (x := 2) (x1 := 3) (x2 := 4) (z := z) (y := y) (ez := fun _ => 0) (ey := fun _ => 0) (n := 0) (K := K) (fun _ _ h => h) (fun _ _ h => h) rfl rfl rfl (by omega) hK rfl X w [v, .slice none 0 0] hX ⟨fun w1 hw => hq.kp hw.1, fun w1 hw => ⟨none, 0, rfl, fun i hi => by omega⟩, trivial⟩).mono fun e w' ⟨hg, us, he, ho⟩ => ⟨hg, us, he, ?_⟩
    refine outMap.ok (l := [⟨qS, [(0, 0, 2), (0, 2, 3), (2, 2, 4)]⟩]) ⟨⟨rfl, ⟨rfl, rfl, fun _ _ h => hx ▸ h⟩, ⟨rfl, rfl, fun _ _ h => hx1 ▸ h⟩, ⟨rfl, rfl, fun _ _ h => hx2 ▸ h⟩, trivial⟩, trivial⟩ ho
end
def b_pvalue (z : Nat → Int) (n k : Nat) (q : Rat) (kt kn : Nat) : List (World → Value → Prop) := [fun w v => Rw 2 (fun ι w v => IntV w v (z ι) k) n w v, fun w v => RatV w v q kt, fun w v => Rw 2 (fun ι w v => IntV w v (z ι) k) (tl z n) w v, fun w v => NorQ w v q (kt + 2), fun w v => NorV w v q.num (kt + 2), fun w v => NorV w v (q.den : Int) (kt + 2), fun w v => NorV w v (hN z (tl z n) q.num q.den 0) k, fun w v => NorV w v (1 : Int) 2, fun _ v => v = .int .i64 ((((tl z n) : Nat) : Int) - 1), fun _ v => v = .int .i64 (((((tl z n) : Nat) : Int) - 1) - 1), fun w v => NorV w v (hN z (tl z n) q.num q.den ((tl z n) - 1)) kn, fun w v => NorV w v (((q.den : Nat) : Int) ^ ((tl z n) - 1)) kn]
def l_pvalue_1 (z : Nat → Int) (n k : Nat) (q : Rat) (kt kn : Nat) (j : Nat) : List (World → Value → Prop) := [fun _ v => v = .int .i64 ((((tl z n) : Nat) : Int) - 2 - ((j : Nat) : Int)), fun w v => NorV w v (hN z (tl z n) q.num q.den j) kn, fun w v => NorV w v (((q.den : Nat) : Int) ^ j) kn, fun w v => NorV w v ((((q.den : Nat) : Int) ^ j) * (q.den : Int)) (kn + (kt + 2)), fun w v => NorV w v ((hN z (tl z n) q.num q.den j) * q.num) (kn + (kt + 2)), fun w v => Ptr 2 (fun w v => IntV w v (z ((tl z n) - 2 - j)) k) w v, fun w v => IntV w v (z ((tl z n) - 2 - j)) k, fun w v => NorV w v ((z ((tl z n) - 2 - j)) * ((((q.den : Nat) : Int) ^ j) * (q.den : Int))) (k + (kn + (kt + 2))), fun w v => NorV w v (((hN z (tl z n) q.num q.den j) * q.num) + ((z ((tl z n) - 2 - j)) * ((((q.den : Nat) : Int) ^ j) * (q.den : Int)))) ((kn + (kt + 2)) + (k + (kn + (kt + 2))) + 1), fun _ v => v = .int .i64 (((((tl z n) : Nat) : Int) - 2 - ((j : Nat) : Int)) - 1)]
def d_pvalue_1 : LoopD := ⟨[0, 1, 3, 4, 5, 7, 8, 9, 10, 11, 12, 13, 14, 15, 16], [(.slot 6, .i), (.cell 2 0, .b), (.cell 2 1, .s), (.cell 3 0, .b), (.cell 3 1, .s)], [(.one 0, 12), (.agg [1, 2], 13), (.agg [3, 4], 14)], [.from 9, .from 6, .from 7], 12, [(13, 10), (14, 11)]⟩
def r_pvalue_1_0 : List Step := [.base ⟨0, [.fact 12, .lit (.ci .i64 0)], [⟨.one (.lit (.cb true)), []⟩], .quiet (mBin .geq)⟩,
      .base ⟨48, [.fact 14, .fact 5], [⟨.agg [.b, .s], [(0, 0, 15)]⟩], false⟩,
      .base ⟨48, [.fact 13, .fact 4], [⟨.agg [.b, .s], [(0, 0, 16)]⟩], false⟩,
      .base ⟨0, [.fact 2, .fact 12], [⟨.one (.p), [(0, 0, 17)]⟩], .quiet (mIdx 23)⟩,
      .base ⟨0, [.fact 17], [⟨.agg [.b, .s], [(0, 0, 18)]⟩], .quiet (mLoad 26)⟩,
      .base ⟨48, [.fact 18, .fact 15], [⟨.agg [.b, .s], [(0, 0, 19)]⟩], false⟩,
      .base ⟨54, [.fact 16, .fact 19], [⟨.agg [.b, .s], [(0, 0, 20)]⟩], false⟩,
      .base ⟨0, [.fact 12, .lit (.ci .i64 1)], [⟨.one (.i), [(0, 0, 21)]⟩], .quiet (mBin .sub)⟩]
def o_pvalue_1 : List Step := [.base ⟨0, [.fact 12, .lit (.ci .i64 0)], [⟨.one (.lit (.cb false)), []⟩], .quiet (mBin .geq)⟩]
def ss_pvalue : List Step := [.base ⟨53, [.fact 0], [⟨.one (.s), [(0, 0, 2)]⟩], false⟩,
      .base ⟨110, [.fact 1, .lit .nl], [⟨.agg [.b, .s, .b, .s], [(0, 0, 3), (0, 2, 4), (2, 2, 5)]⟩], false⟩,
      .base ⟨45, [.fact 2], [⟨.agg [.b, .s], [(0, 0, 6)]⟩], false⟩,
      .base ⟨19, [.lit (.ci .i64 1)], [⟨.agg [.b, .s], [(0, 0, 7)]⟩], false⟩,
      .base ⟨58, [.fact 2], [⟨.one (.i), [(0, 0, 8)]⟩], false⟩,
      .base ⟨0, [.fact 8, .lit (.ci .i64 1)], [⟨.one (.i), [(0, 0, 9)]⟩], .quiet (mBin .sub)⟩,
      .loop d_pvalue_1 [(r_pvalue_1_0, [.from 21, .from 20, .from 15])] o_pvalue_1]
def ins_pvalue : List Out := [⟨.one (.s), [(0, 0, 0)]⟩, ⟨.agg [.b, .s, .b, .s], [(0, 0, 1)]⟩]
set_option maxRecDepth 100000 in
theorem pvalue {z : Nat → Int} {n k : Nat} {q : Rat} {kt kn : Nat} (hn : n ≤ 1000000) (hk : k ≤ 40000) (hkt : kt ≤ 30000) (hkn : kn ≤ 100000) (hB : ∀ j, j ≤ (tl z n) - 1 → Bd (hN z (tl z n) q.num q.den j).natAbs kn ∧ Bd (((q.den : Nat) : Int) ^ j).natAbs kn) : SiteOk (ph (b_pvalue z n k q kt kn)) Tryz.prog ⟨55, [.fact 0, .fact 1], [⟨.agg [.b, .s], [(0, 0, 10)]⟩, ⟨.agg [.b, .s], [(0, 0, 11)]⟩], true⟩ := by
  have hle := tl_le z n
  exact fn_okL ins_pvalue [⟨.agg [.b, .s], [(0, 0, 10)]⟩, ⟨.agg [.b, .s], [(0, 0, 11)]⟩] ss_pvalue Tryz.func55 (by kernel_rfl)
    (lbase (sTrim (z := z) (n := n) (k := k) (F := (fun ι w v => IntV w v (z ι) k)) (fun _ _ h => h) (fun _ _ _ h => h) (fun _ _ _ _ g h => IntV.kp h g) rfl (by omega) (by omega))
      (lbase (sMax1 qQ rfl rfl rfl (by omega))
      (lbase (sLead (z := z) (n := (tl z n)) (fun _ _ h => Rw.to (sz := 2) (n := (tl z n)) (F := (fun ι w v => IntV w v (z ι) k)) (h) (fun i w v _ h => (fun _ _ _ h => h) i w v h)) rfl (by omega) (by omega) (lead_hN _ _))
      (lbase (sOf (z := 1) rfl (by decide) (by decide) rfl)
      (lbase (sDeg (n := (tl z n)) (fun _ _ h => Rw.lenS (sz := 2) (F := (fun ι w v => IntV w v (z ι) k)) (n := (tl z n)) h) rfl (by omega) (rfl))
      (lbase (qSubK (fun _ _ h => h) (rfl) rfl (by omega) (by omega))
      (lloop (counted ((tl z n) - 1) (fun j => ph (b_pvalue z n k q kt kn ++ l_pvalue_1 z n k q kt kn j)) (fun _ => 0) (fun j p hp => ph_app' (show p < (b_pvalue z n k q kt kn).length from hp)) ⟨fun _ _ h => h.trans (congrArg (Value.int .i64) (by omega)), fun _ _ h => NorV.re h (hB 0 (by omega)).1, fun _ _ h => NorV.re (h.eq (by rw [Int.pow_zero])) (hB 0 (by omega)).2, trivial⟩ (fun j hj => by
      skip
      exact ⟨(r_pvalue_1_0, [.from 21, .from 20, .from 15]), rfl, ⟨fun _ _ h => h.trans (congrArg (Value.int .i64) (by omega)), fun _ _ h => NorV.re (h.eq (by rw [← Int.pow_succ]; rfl)) (hB (j + 1) (by omega)).1, fun _ _ h => NorV.re (h.eq (by rw [Int.pow_succ])) (hB (j + 1) (by omega)).2, trivial⟩, (lbase (qTestC (op := .geq) (fun _ _ h => h) (ts_run (decide_eq_true (by omega)) (by simp)))
      (lbase (sMul nI nI rfl (by omega) rfl)
      (lbase (sMul nI nI rfl (by omega) rfl)
      (lbase (qIdx (i := ((tl z n) - 2 - j)) (sz := 2) (n := (tl z n)) (F := (fun ι w v => IntV w v (z ι) k)) Tryz.underlying23 (by kernel_rfl) (fun _ _ h => Rw.arr h) (fun _ _ h => h.trans (congrArg (Value.int .i64) (by omega))) (by omega) rfl)
      (lbase (qLoad (sz := 2) (F := fun w v => IntV w v (z ((tl z n) - 2 - j)) k) (by kernel_rfl) (by kernel_rfl) (fun _ _ h => h) (fun _ _ _ g h => IntV.kp h g) (fun _ _ h => IntV.is h) rfl)
      (lbase (sMul iI nI rfl (by omega) rfl)
      (lbase (sAdd nI nI rfl (by omega) rfl)
      (lbase (qSubK (fun _ _ h => h) (rfl) rfl (by omega) (by omega))
      lnil))))))))⟩)
      (lbase (qTestC (op := .geq) (fun _ _ h => h) (ts_run (decide_eq_false (by omega)) (by simp)))
      lnil)
      (fun q hq w v h => by
        simp only [d_pvalue_1, List.mem_cons, List.not_mem_nil, or_false] at hq
        rcases hq with rfl | rfl
        · exact (fun h => h) h
        · exact (fun h => h) h)) lnil)))))))
    (ins_ok [.fact 0 (.one (.s)), .fact 1 (.agg [.b, .s, .b, .s])] ⟨fun _ _ h => Rw.is (sz := 2) (F := (fun ι w v => IntV w v (z ι) k)) (n := n) h, fun _ _ h => RatV.is h, trivial⟩) (fun _ _ _ h => h)

section
variable {Φ : Nat → World → Value → Prop} {p r x y n k kt kn : Nat} {z : Nat → Int} {q : Rat} {t t' : Int}
theorem sValue5 (hp : ∀ w v, Φ p w v → Rw 2 (fun i w v => IntV w v (z i) k) n w v) (hr : ∀ w v, Φ r w v → RatV w v q kt) (hx : Φ x = fun w v => NorV w v (hN z (tl z n) q.num q.den (tl z n - 1)) kn) (hy : Φ y = fun w v => NorV w v (((q.den : Nat) : Int) ^ (tl z n - 1)) kn) (hn : n ≤ 1000000) (hk : k ≤ 40000) (hkt : kt ≤ 30000) (hkn : kn ≤ 100000) (hB : ∀ j, j ≤ tl z n - 1 → Bd (hN z (tl z n) q.num q.den j).natAbs kn ∧ Bd (((q.den : Nat) : Int) ^ j).natAbs kn) :
    SiteOk Φ Tryz.prog ⟨55, [.fact p, .fact r], [⟨iS, [(0, 0, x)]⟩, ⟨iS, [(0, 0, y)]⟩], true⟩ :=
  viaG (pvalue hn hk hkt hkn hB) ⟨hp, hr, trivial⟩ ⟨⟨rfl, ⟨rfl, rfl, fun _ _ h => hx ▸ h⟩, trivial⟩, ⟨rfl, ⟨rfl, rfl, fun _ _ h => hy ▸ h⟩, trivial⟩, trivial⟩
end
def b_psign (z : Nat → Int) (n k : Nat) (q : Rat) (kt kn : Nat) : List (World → Value → Prop) := [fun w v => Rw 2 (fun ι w v => IntV w v (z ι) k) n w v, fun w v => RatV w v q kt, fun w v => NorV w v (hN z (tl z n) q.num q.den ((tl z n) - 1)) kn, fun w v => NorV w v (((q.den : Nat) : Int) ^ ((tl z n) - 1)) kn, fun _ v => v = .int .i64 (cmpI (hN z (tl z n) q.num q.den ((tl z n) - 1)) 0)]
def ss_psign : List Step := [.base ⟨55, [.fact 0, .fact 1], [⟨.agg [.b, .s], [(0, 0, 2)]⟩, ⟨.agg [.b, .s], [(0, 0, 3)]⟩], true⟩,
      .base ⟨46, [.fact 2], [⟨.one (.i), [(0, 0, 4)]⟩], false⟩]
def ins_psign : List Out := [⟨.one (.s), [(0, 0, 0)]⟩, ⟨.agg [.b, .s, .b, .s], [(0, 0, 1)]⟩]
set_option maxRecDepth 100000 in
theorem psign {z : Nat → Int} {n k : Nat} {q : Rat} {kt kn : Nat} (hn : n ≤ 1000000) (hk : k ≤ 40000) (hkt : kt ≤ 30000) (hkn : kn ≤ 100000) (hB : ∀ j, j ≤ (tl z n) - 1 → Bd (hN z (tl z n) q.num q.den j).natAbs kn ∧ Bd (((q.den : Nat) : Int) ^ j).natAbs kn) : SiteOk (ph (b_psign z n k q kt kn)) Tryz.prog ⟨14, [.fact 0, .fact 1], [⟨.one (.i), [(0, 0, 4)]⟩], false⟩ := by
  skip
  exact fn_okL ins_psign [⟨.one (.i), [(0, 0, 4)]⟩] ss_psign Tryz.func14 (by kernel_rfl)
    (lbase (sValue5 (z := z) (n := n) (fun _ _ h => Rw.to (sz := 2) (n := n) (F := (fun ι w v => IntV w v (z ι) k)) (h) (fun i w v _ h => (fun _ _ _ h => h) i w v h)) qQ rfl rfl (by omega) (by omega) (by omega) (by omega) hB)
      (lbase (sISignJ nN rfl)
      lnil))
    (ins_ok [.fact 0 (.one (.s)), .fact 1 (.agg [.b, .s, .b, .s])] ⟨fun _ _ h => Rw.is (sz := 2) (F := (fun ι w v => IntV w v (z ι) k)) (n := n) h, fun _ _ h => RatV.is h, trivial⟩) (fun _ _ _ h => h)

section
variable {Φ : Nat → World → Value → Prop} {p r x y n k kt kn : Nat} {z : Nat → Int} {q : Rat} {t t' : Int}
theorem sPSign (hp : ∀ w v, Φ p w v → Rw 2 (fun i w v => IntV w v (z i) k) n w v) (hr : ∀ w v, Φ r w v → RatV w v q kt) (hx : Φ x = fun _ v => v = .int .i64 (cmpI (hN z (tl z n) q.num q.den (tl z n - 1)) 0)) (hn : n ≤ 1000000) (hk : k ≤ 40000) (hkt : kt ≤ 30000) (hkn : kn ≤ 100000) (hB : ∀ j, j ≤ tl z n - 1 → Bd (hN z (tl z n) q.num q.den j).natAbs kn ∧ Bd (((q.den : Nat) : Int) ^ j).natAbs kn) :
    SiteOk Φ Tryz.prog ⟨14, [.fact p, .fact r], [⟨.one .i, [(0, 0, x)]⟩], false⟩ :=
  viaG (psign hn hk hkt hkn hB) ⟨hp, hr, trivial⟩ ⟨⟨rfl, ⟨rfl, rfl, fun _ _ h => hx ▸ h⟩, trivial⟩, trivial⟩
end
end Go.Proofs.YtigkehblnlghkaaGreat.Sym
