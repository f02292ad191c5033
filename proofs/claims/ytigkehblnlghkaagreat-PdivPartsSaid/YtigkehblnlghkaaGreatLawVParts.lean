/- PdivParts holds: for every two polynomials the law returns true and leaves them as they were. No condition. -/
import Derived.Test.YtigkehblnlghkaaGreatDivW
import Derived.Test.YtigkehblnlghkaaGreatPolI
import Derived.Test.YtigkehblnlghkaaGreatPolQ
namespace Go.Proofs.YtigkehblnlghkaaGreat.vparts
open Go.ChangeShapes Go.WideShapes Go.ChangeAt Go.RowKit
open Go.Proofs.YtigkehblnlghkaaGreat.Sym hiding val run start

section
variable {Φ : Nat → World → Value → Prop} {p x i : Nat}
theorem sISignJ {z t : Int} (hp : ∀ w v, Φ p w v → NorV w v z i) (hx : Φ x = fun _ v => v = .int .i64 t) (ht : cmpI z 0 = t := by rfl) : SiteOk Φ Tryz.prog ⟨46, [.fact p], [⟨.one .i, [(0, 0, x)]⟩], false⟩ :=
  site1 fun _ _ _ h0 => (Sign_z (cmpI z 0) (hp _ _ (get h0)).1 rfl).mono fun _ _ h => pstJ hx (ht ▸ h)
theorem sAbs {z t : Int} (hp : ∀ w v, Φ p w v → IntV w v z i) (hx : Φ x = fun w v => NorV w v t i) (hi : i ≤ 1000000) (ht : (z.natAbs : Int) = t) : SiteOk Φ Tryz.prog ⟨49, [.fact p], [⟨iS, [(0, 0, x)]⟩], false⟩ :=
  site1 fun _ _ _ h0 => ((Abs_i (hp _ _ (get h0)) hi).mono fun _ _ h => h.got).mono fun _ _ h => pstI (ht ▸ hx) h
end
theorem coef_tm (n : Nat) (f : Nat → Int) (i : Nat) : coef (trimL (mk n f)) i = upto n f i := by
  rw [coef_trim, coef_mk]; rfl
theorem gcdZ_mul (z : Nat → Int) (a : Int) : ∀ n, gcdZ (fun i => z i * a) n = gcdZ z n * a.natAbs
  | 0 => (Nat.zero_mul _).symm
  | n + 1 => by rw [gcdZ, gcdZ, gcdZ_mul z a n, Int.natAbs_mul, Nat.gcd_mul_right]
theorem gcdZ_more {z : Nat → Int} {n : Nat} : ∀ {k : Nat}, (∀ i, n ≤ i → z i = 0) → gcdZ z (n + k) = gcdZ z n
  | 0, _ => rfl
  | k + 1, h => by rw [← Nat.add_assoc, gcdZ, gcdZ_more h, h (n + k) (by omega)]; simp
theorem gcdZ_to {z : Nat → Int} {n m : Nat} (h : ∀ i, n ≤ i → z i = 0) (hm : n ≤ m) : gcdZ z m = gcdZ z n := by
  obtain ⟨k, rfl⟩ := Nat.le.dest hm
  exact gcdZ_more h
theorem dvd_gcdZ {z : Nat → Int} {d : Nat} : ∀ {n : Nat}, (∀ i, i < n → (d : Int) ∣ z i) → d ∣ gcdZ z n
  | 0, _ => Nat.dvd_zero d
  | n + 1, h => Nat.dvd_gcd (dvd_gcdZ fun i hi => h i (by omega)) (Int.natCast_dvd_natCast.1 (Int.dvd_natAbs.2 (h n (by omega))))
/-- Each number but 1 has a divisor that divides a number or has nothing in common with it. -/
theorem prime_in (n : Nat) (hn : 1 < n) : ∃ p, 1 < p ∧ p ∣ n ∧ ∀ x, Nat.gcd p x = 1 ∨ p ∣ x := by
  induction n using Nat.strongRecOn with
  | ind n ih =>
    by_cases h : ∀ x, Nat.gcd n x = 1 ∨ n ∣ x
    · exact ⟨n, hn, Nat.dvd_refl n, h⟩
    · obtain ⟨x, hx⟩ := Classical.not_forall.1 h
      have h1 : Nat.gcd n x ≠ 1 := fun e => hx (.inl e)
      have h2 : Nat.gcd n x ≠ n := fun e => hx (.inr (e ▸ Nat.gcd_dvd_right n x))
      have h3 : Nat.gcd n x ≤ n := Nat.le_of_dvd (by omega) (Nat.gcd_dvd_left n x)
      have h4 : 0 < Nat.gcd n x := Nat.gcd_pos_of_pos_left x (by omega)
      obtain ⟨p, p1, p2, p3⟩ := ih (Nat.gcd n x) (by omega) (by omega)
      exact ⟨p, p1, Nat.dvd_trans p2 (Nat.gcd_dvd_left n x), p3⟩
theorem prime_of (n : Nat) (hn : n ≠ 1) : ∃ p, 1 < p ∧ p ∣ n ∧ ∀ x, Nat.gcd p x = 1 ∨ p ∣ x := by
  rcases Nat.eq_zero_or_pos n with h | h
  · obtain ⟨p, h1, -, h3⟩ := prime_in 2 (by omega)
    exact ⟨p, h1, h ▸ Nat.dvd_zero p, h3⟩
  · exact prime_in n (by omega)
theorem first_not {d : Int} {f : Nat → Int} : ∀ n, (¬ ∀ i, i < n → d ∣ f i) → ∃ i, i < n ∧ ¬ d ∣ f i ∧ ∀ x, x < i → d ∣ f x
  | 0, h => absurd (fun i hi => absurd hi (by omega)) h
  | n + 1, h => by
    by_cases h1 : ∀ i, i < n → d ∣ f i
    · refine ⟨n, by omega, fun h2 => h fun i hi => ?_, h1⟩
      rcases Nat.lt_or_ge i n with h3 | h3
      · exact h1 i h3
      · rw [show i = n by omega]; exact h2
    · obtain ⟨i, h2, h3⟩ := first_not n h1
      exact ⟨i, by omega, h3⟩
theorem sum_one {d : Int} {t : Nat → Int} {i : Nat} : ∀ {n : Nat}, i < n → (∀ x, x < n → x ≠ i → d ∣ t x) → d ∣ sumTo t n → d ∣ t i
  | n + 1, hi, h, hs => by
    rw [sumTo] at hs
    by_cases h1 : i = n
    · subst h1
      have h2 : ∀ k, k ≤ i → d ∣ sumTo t k := fun k => by
        induction k with
        | zero => exact fun _ => Int.dvd_zero d
        | succ k ih => exact fun hk => Int.dvd_add (ih (by omega)) (h k (by omega) (by omega))
      have h3 := Int.dvd_sub hs (h2 i (Nat.le_refl i))
      rw [show sumTo t i + t i - sumTo t i = t i by omega] at h3
      exact h3
    · refine sum_one (n := n) (by omega) (fun x hx hne => h x (by omega) hne) ?_
      have h3 := Int.dvd_sub hs (h n (by omega) (by omega))
      rw [show sumTo t n + t n - t n = sumTo t n by omega] at h3
      exact h3
/-- A product of two polynomials whose contents are 1 has the content 1. -/
theorem gauss {f g : Nat → Int} {n m N : Nat} (hf : gcdZ f n = 1) (hg : gcdZ g m = 1) (hN : ∀ i, N ≤ i → conv f g i = 0) : gcdZ (conv f g) N = 1 := by
  refine Classical.byContradiction fun hne => ?_
  obtain ⟨p, p1, p2, p3⟩ := prime_of _ hne
  have hall : ∀ i, (p : Int) ∣ conv f g i := fun i => by
    rcases Nat.lt_or_ge i N with h | h
    · exact Int.dvd_trans (Int.natCast_dvd_natCast.2 p2) (gcdZ_dvd i h)
    · rw [hN i h]; exact Int.dvd_zero _
  have hsome : ∀ {h : Nat → Int} {k : Nat}, gcdZ h k = 1 → ¬ ∀ i, i < k → (p : Int) ∣ h i := fun {h k} h1 h2 => by
    have := dvd_gcdZ h2
    rw [h1] at this
    have := Nat.le_of_dvd (by omega) this
    omega
  obtain ⟨i, -, hi, hi'⟩ := first_not n (hsome hf)
  obtain ⟨j, -, hj, hj'⟩ := first_not m (hsome hg)
  have h1 := hall (i + j)
  rw [conv_sum] at h1
  have h2 : (p : Int) ∣ f i * g (i + j - i) := sum_one (t := fun x => f x * g (i + j - x)) (by omega) (fun x hx hne => by
    rcases Nat.lt_or_ge x i with h | h
    · exact Int.dvd_mul_of_dvd_left (hi' x h)
    · exact Int.dvd_mul_of_dvd_right (hj' (i + j - x) (by omega))) h1
  rw [Nat.add_sub_cancel_left] at h2
  have h3 := Int.natAbs_dvd_natAbs.2 h2
  rw [Int.natAbs_mul, Int.natAbs_natCast] at h3
  have c : ∀ {z : Int}, ¬ (p : Int) ∣ z → Nat.gcd p z.natAbs = 1 := fun {z} hz => by
    rcases p3 z.natAbs with h | h
    · exact h
    · exact absurd (Int.natCast_dvd_natCast.2 h |> Int.dvd_natAbs.1) hz
  have h4 : p ∣ (g j).natAbs := Nat.Coprime.dvd_of_dvd_mul_left (c hi) h3
  exact hj (Int.dvd_natAbs.1 (Int.natCast_dvd_natCast.2 h4))
section
variable {z : Nat → Int} {n : Nat}
theorem prim_mul (i : Nat) : coef (dvL z n (pcon z n)) i * pcon z n = upto n z i := by
  have hl := tl_le z n
  rw [dvL, coef_mk]
  by_cases h1 : i < tl z n
  · rw [if_pos h1, upto_lt (by omega)]
    exact Int.ediv_mul_cancel (pcon_dvd i (by omega))
  · rw [if_neg h1, Int.zero_mul, tl_out (by omega)]
theorem pcon_abs : (pcon z n).natAbs = gcdZ z n := by
  unfold pcon
  split <;> simp
theorem prim_gcd (h : 0 < tl z n) : gcdZ (coef (dvL z n (pcon z n))) (dvL z n (pcon z n)).length = 1 := by
  have hl := tl_le z n
  have h0 := gcdZ_ne h
  have e1 := gcdZ_mul (coef (dvL z n (pcon z n))) (pcon z n) n
  rw [gcdZ_congr (g := z) fun i hi => by rw [prim_mul, upto_lt hi], pcon_abs, gcdZ_to (n := (dvL z n (pcon z n)).length) (fun i hi => coef_out hi) (by rw [dvL, mk_length]; exact hl)] at e1
  have h2 : 0 < gcdZ z n := by omega
  exact Nat.eq_of_mul_eq_mul_right h2 (by rw [Nat.one_mul]; exact e1.symm)
theorem prim_lead (h : 0 < tl z n) : 0 < ldZ (coef (dvL z n (pcon z n))) (dvL z n (pcon z n)).length := by
  have hl := tl_le z n
  have hlen : (dvL z n (pcon z n)).length = tl z n := by rw [dvL, mk_length]
  obtain ⟨t, ht⟩ : ∃ t, tl z n = t + 1 := ⟨tl z n - 1, by omega⟩
  have h1 := prim_mul (z := z) (n := n) t
  rw [upto_lt (by omega)] at h1
  have h2 : ldZ z n = z t := by rw [ldZ, if_neg (by omega), ht, Nat.add_sub_cancel]
  have h3 := tl_last z n h
  rw [ht, Nat.add_sub_cancel] at h3
  have h4 := gcdZ_ne h
  have h5 : 0 < coef (dvL z n (pcon z n)) t := by
    by_cases h5 : z t < 0
    · rw [pcon, if_pos (by omega)] at h1
      rw [pcon, if_pos (by omega)]
      rcases Int.lt_or_le 0 (coef (dvL z n (-(gcdZ z n : Int))) t) with h7 | h7
      · exact h7
      · have h6 : 0 ≤ coef (dvL z n (-(gcdZ z n : Int))) t * -(gcdZ z n : Int) := Int.mul_nonneg_of_nonpos_of_nonpos h7 (by omega)
        rw [h1] at h6; omega
    · rw [pcon, if_neg (by omega)] at h1
      rw [pcon, if_neg (by omega)]
      have h6 : 0 < coef (dvL z n (gcdZ z n : Int)) t * (gcdZ z n : Int) := by rw [h1]; omega
      exact Int.pos_of_mul_pos_left h6 (by omega)
  rw [hlen, ldZ]
  have h6 : tl (coef (dvL z n (pcon z n))) (tl z n) = tl z n := by
    rw [ht]
    unfold tl
    rw [if_neg (by omega)]
  rw [h6, if_neg (by omega), ht, Nat.add_sub_cancel]
  exact h5
end
/-- The content of a product. -/
theorem con_mul {z y : Nat → Int} {n m : Nat} (hz : 0 < tl z n) (hy : 0 < tl y m) : gcdZ (coef (mulL z n y m)) (mulL z n y m).length = gcdZ z n * gcdZ y m := by
  have hk : pcon z n * pcon y m ≠ 0 := Int.mul_ne_zero (pcon_ne hz) (pcon_ne hy)
  have e : ∀ i, coef (mulL z n y m) i = conv (coef (dvL z n (pcon z n))) (coef (dvL y m (pcon y m))) i * (pcon z n * pcon y m) := fun i => by
    rw [coef_mul, conv_congr (f := upto n z) (g := upto m y) (fun i _ => (prim_mul i).symm) (fun i _ => (prim_mul i).symm), conv_mulR' i (pcon z n) (coef (dvL z n (pcon z n))), conv_comm, conv_mulR' i (pcon y m) (coef (dvL y m (pcon y m))), conv_comm, Int.mul_assoc, Int.mul_comm (pcon y m)]
  rw [gcdZ_congr (g := fun i => conv (coef (dvL z n (pcon z n))) (coef (dvL y m (pcon y m))) i * (pcon z n * pcon y m)) fun i _ => e i, gcdZ_mul, gauss (prim_gcd hz) (prim_gcd hy), Nat.one_mul, Int.natAbs_mul, pcon_abs, pcon_abs]
  intro i hi
  have h1 := e i
  rw [coef_out hi] at h1
  rcases Int.mul_eq_zero.1 h1.symm with h2 | h2
  · exact h2
  · exact absurd h2 hk
def b_path_0 (aa ab : Nat → Bool) (xsa xsb : Nat → List Nat) (eza ezb : Nat → Int) (ma mb Na Nb : Nat) (P SC ML : List Int) : List (World → Value → Prop) := [fun w v => Rw 2 (fun ι w v => RawI w v (aa ι) (xsa ι)) ma w v, fun w v => Rw 2 (fun ι w v => RawI w v (ab ι) (xsb ι)) mb w v, fun w v => Rw 2 (fun ι w v => KI w v (aa ι) ((fun ι => (xsa ι).take 2) ι) (eza ι) 2) Na w v, fun w v => Rw 4 (fun ι w v => DecQ w v ((((coef (trimL (mk Na eza))) ι : Int) : Rat)) (2 + 2 + 2)) ((trimL (mk Na eza)).length) w v, fun w v => Rw 2 (fun ι w v => KI w v (ab ι) ((fun ι => (xsb ι).take 2) ι) (ezb ι) 2) Nb w v, fun w v => Rw 4 (fun ι w v => DecQ w v ((((coef (trimL (mk Nb ezb))) ι : Int) : Rat)) (2 + 2 + 2)) ((trimL (mk Nb ezb)).length) w v, fun w v => NorV w v (pcon eza Na) 2, fun w v => Rw 2 (fun ι w v => NorV w v ((coef P) ι) 2) P.length w v, fun w v => Rw 2 (fun ι w v => NorV w v ((coef SC) ι) (2 + 2)) SC.length w v, fun _ v => v = .int .i64 (((trimL (mk Na eza)).length : Nat) : Int), fun _ v => v = .int .i64 (((trimL (mk Na eza)).length : Nat) : Int), fun w v => Rw 2 (fun ι w v => NorV w v ((coef ML) ι) (2 + 2 + 7 + 1)) ML.length w v, fun w v => Rw 1 (PRow (fun _ => (coef ML)) (fun _ => ML.length) (2 + 2 + 7 + 1)) 1 w v, fun w v => NorV w v (gcdZ (coef ML) ML.length : Int) (2 + 2 + 7 + 1)]
def ss_path_0 : List Step := [.base ⟨11, [.fact 0, .lit (.ci .i64 7), .lit (.ci .i64 2)], [⟨.one (.s), [(0, 0, 2)]⟩, ⟨.one (.s), [(0, 0, 3)]⟩], true⟩,
      .base ⟨11, [.fact 1, .lit (.ci .i64 6), .lit (.ci .i64 2)], [⟨.one (.s), [(0, 0, 4)]⟩, ⟨.one (.s), [(0, 0, 5)]⟩], true⟩,
      .base ⟨31, [.fact 2], [⟨.agg [.b, .s], [(0, 0, 6)]⟩, ⟨.one (.s), [(0, 0, 7)]⟩], true⟩,
      .base ⟨22, [.fact 7, .fact 6], [⟨.one (.s), [(0, 0, 8)]⟩], false⟩,
      .base ⟨15, [.fact 8, .fact 2], [⟨.one (.lit (.cb true)), []⟩], false⟩,
      .base ⟨0, [.fact 3], [⟨.one (.i), [(0, 0, 9)]⟩], .quiet (mLen 30)⟩,
      .base ⟨0, [.fact 9, .lit (.ci .i64 0)], [⟨.one (.lit (.cb false)), []⟩], .quiet (mBin .gtr)⟩,
      .base ⟨0, [.fact 3], [⟨.one (.i), [(0, 0, 10)]⟩], .quiet (mLen 30)⟩,
      .base ⟨0, [.fact 10, .lit (.ci .i64 0)], [⟨.one (.lit (.cb true)), []⟩], .quiet (mBin .eql)⟩,
      .base ⟨13, [.fact 2, .fact 4], [⟨.one (.s), [(0, 0, 11)]⟩], false⟩,
      .base ⟨0, [.any, .fact 11], [⟨.one (.s), [(0, 0, 12)]⟩], .fresh [] (mRow 112 1)⟩,
      .base ⟨34, [.fact 12], [⟨.agg [.b, .s], [(0, 0, 13)]⟩], false⟩,
      .base ⟨36, [.fact 13], [⟨.one (.lit (.cb true)), []⟩], false⟩,
      .base ⟨37, [], [⟨.one (.lit (.cb true)), []⟩], false⟩]
def ins_path_0 : List Out := [⟨.one (.s), [(0, 0, 0)]⟩, ⟨.one (.s), [(0, 0, 1)]⟩]
set_option maxHeartbeats 1000000 in
set_option maxRecDepth 100000 in
theorem path_0 {aa ab : Nat → Bool} {xsa xsb : Nat → List Nat} {eza ezb : Nat → Int} {ma mb Na Nb : Nat} {P SC ML : List Int} (hna : ma ≤ 9223372036854775807) (hza : ∀ j, sg (aa j) (Proofs.YtigkehblnlghkaaGreat.val 4294967296 ((xsa j).take 2)) = eza j) (hNna : min ma 7 = Na) (hnb : mb ≤ 9223372036854775807) (hzb : ∀ j, sg (ab j) (Proofs.YtigkehblnlghkaaGreat.val 4294967296 ((xsb j).take 2)) = ezb j) (hNnb : min mb 6 = Nb) (hP : dvL eza Na (pcon eza Na) = P) (hPl : P.length ≤ 7) (hSC : trimL (mk P.length (fun i => coef P i * pcon eza Na)) = SC) (hSCl : SC.length ≤ 7) (hML : mulL eza Na ezb Nb = ML) (hMLl : ML.length ≤ 13) (hE : ∀ i, upto SC.length (coef SC) i = upto Na eza i) (h0 : (trimL (mk Na eza)).length = 0) (hz : decide ((gcdZ (coef ML) ML.length : Int) = 0) = true) : SiteOk (ph (b_path_0 aa ab xsa xsb eza ezb ma mb Na Nb P SC ML)) Tryz.prog ⟨9, [.fact 0, .fact 1], [⟨.one (.lit (.cb true)), []⟩], false⟩ := by
  skip
  exact fn_okL ins_path_0 [⟨.one (.lit (.cb true)), []⟩] ss_path_0 Tryz.func9 (by kernel_rfl)
    (lbase (sCut5 7 2 rfl rfl (fun _ _ h => h) rfl rfl (by omega) (by omega) (by omega) hza hNna)
      (lbase (sCut5 6 2 rfl rfl (fun _ _ h => h) rfl rfl (by omega) (by omega) (by omega) hzb hNnb)
      (lbase (sPrim (z := eza) (n := Na) (m := P.length) (fun _ _ h => Rw.to (sz := 2) (n := Na) (F := (fun ι w v => KI w v (aa ι) ((fun ι => (xsa ι).take 2) ι) (eza ι) 2)) (h) (fun i w v _ h => (fun _ _ _ h => And.right h) i w v h)) rfl rfl (by omega) (by omega) hP rfl)
      (lbase (sScaleP (z := (coef P)) (n := P.length) (fun _ _ h => Rw.to (sz := 2) (n := P.length) (F := (fun ι w v => NorV w v ((coef P) ι) 2)) (h) (fun i w v _ h => (fun _ _ _ h => NorV.i h) i w v h)) nI rfl (by omega) (by omega) hSC)
      (lbase (sSameT (z := (coef SC)) (n := SC.length) (y := eza) (m := Na) (fun _ _ h => Rw.to (sz := 2) (n := SC.length) (F := (fun ι w v => NorV w v ((coef SC) ι) (2 + 2))) (h) (fun i w v _ h => (fun _ _ _ h => NorV.i h) i w v h)) (fun _ _ h => Rw.to (sz := 2) (n := Na) (F := (fun ι w v => KI w v (aa ι) ((fun ι => (xsa ι).take 2) ι) (eza ι) 2)) (h) (fun i w v _ h => (fun _ _ _ h => And.right h) i w v h)) (by omega) (by omega) (by omega) (by omega) hE)
      (lbase (qLen (sz := 4) (n := (trimL (mk Na eza)).length) (F := (fun ι w v => DecQ w v ((((coef (trimL (mk Na eza))) ι : Int) : Rat)) (2 + 2 + 2))) Tryz.underlying30 (fun _ _ h => Rw.arr h) rfl)
      (lbase (qTestC (op := .gtr) (fun _ _ h => h) (ts_run (decide_eq_false (by omega)) (by simp)))
      (lbase (qLen (sz := 4) (n := (trimL (mk Na eza)).length) (F := (fun ι w v => DecQ w v ((((coef (trimL (mk Na eza))) ι : Int) : Rat)) (2 + 2 + 2))) Tryz.underlying30 (fun _ _ h => Rw.arr h) rfl)
      (lbase (qTestC (op := .eql) (fun _ _ h => h) (ts_run (decide_eq_true (by omega)) (by simp)))
      (lbase (sPMul (c := 7) (z := eza) (n := Na) (y := ezb) (m := Nb) (fun _ _ h => Rw.to (sz := 2) (n := Na) (F := (fun ι w v => KI w v (aa ι) ((fun ι => (xsa ι).take 2) ι) (eza ι) 2)) (h) (fun i w v _ h => (fun _ _ _ h => And.right h) i w v h)) (fun _ _ h => Rw.to (sz := 2) (n := Nb) (F := (fun ι w v => KI w v (ab ι) ((fun ι => (xsb ι).take 2) ι) (ezb ι) 2)) (h) (fun i w v _ h => (fun _ _ _ h => And.right h) i w v h)) rfl (by omega) (by omega) (by omega) (by omega) (by omega) hML)
      (lbase (qRowP1 (z := (coef ML)) (n := ML.length) (fun _ _ h => Rw.to (sz := 2) (n := ML.length) (F := (fun ι w v => NorV w v ((coef ML) ι) (2 + 2 + 7 + 1))) (h) (fun i w v _ h => (fun _ _ _ h => NorV.i h) i w v h)) rfl)
      (lbase (sContent1 (z := (coef ML)) (n := ML.length) (fun _ _ h => h) rfl (by omega) (by omega))
      (lbase (sIZero nN hz)
      (lbase (sWakes6)
      lnil))))))))))))))
    (ins_ok [.fact 0 (.one (.s)), .fact 1 (.one (.s))] ⟨fun _ _ h => Rw.is (sz := 2) (F := (fun ι w v => RawI w v (aa ι) (xsa ι))) (n := ma) h, fun _ _ h => Rw.is (sz := 2) (F := (fun ι w v => RawI w v (ab ι) (xsb ι))) (n := mb) h, trivial⟩) (fun _ _ _ h => h)

def b_path_1 (aa ab : Nat → Bool) (xsa xsb : Nat → List Nat) (eza ezb : Nat → Int) (ma mb Na Nb : Nat) (lp : Int) (P SC ML : List Int) : List (World → Value → Prop) := [fun w v => Rw 2 (fun ι w v => RawI w v (aa ι) (xsa ι)) ma w v, fun w v => Rw 2 (fun ι w v => RawI w v (ab ι) (xsb ι)) mb w v, fun w v => Rw 2 (fun ι w v => KI w v (aa ι) ((fun ι => (xsa ι).take 2) ι) (eza ι) 2) Na w v, fun w v => Rw 4 (fun ι w v => DecQ w v ((((coef (trimL (mk Na eza))) ι : Int) : Rat)) (2 + 2 + 2)) ((trimL (mk Na eza)).length) w v, fun w v => Rw 2 (fun ι w v => KI w v (ab ι) ((fun ι => (xsb ι).take 2) ι) (ezb ι) 2) Nb w v, fun w v => Rw 4 (fun ι w v => DecQ w v ((((coef (trimL (mk Nb ezb))) ι : Int) : Rat)) (2 + 2 + 2)) ((trimL (mk Nb ezb)).length) w v, fun w v => NorV w v (pcon eza Na) 2, fun w v => Rw 2 (fun ι w v => NorV w v ((coef P) ι) 2) P.length w v, fun w v => Rw 2 (fun ι w v => NorV w v ((coef SC) ι) (2 + 2)) SC.length w v, fun _ v => v = .int .i64 (((trimL (mk Na eza)).length : Nat) : Int), fun w v => NorV w v lp 2, fun _ v => v = .int .i64 (cmpI lp 0), fun w v => Rw 1 (PRow (fun _ => (coef P)) (fun _ => P.length) 2) 1 w v, fun w v => NorV w v (gcdZ (coef P) P.length : Int) 2, fun w v => NorV w v (1 : Int) 2, fun _ v => v = .int .i64 (cmpI (gcdZ (coef P) P.length : Int) (1 : Int)), fun _ v => v = .int .i64 (((trimL (mk Na eza)).length : Nat) : Int), fun _ v => v = .int .i64 (((trimL (mk Nb ezb)).length : Nat) : Int), fun w v => Rw 2 (fun ι w v => NorV w v ((coef ML) ι) (2 + 2 + 7 + 1)) ML.length w v, fun w v => Rw 1 (PRow (fun _ => (coef ML)) (fun _ => ML.length) (2 + 2 + 7 + 1)) 1 w v, fun w v => NorV w v (gcdZ (coef ML) ML.length : Int) (2 + 2 + 7 + 1)]
def ss_path_1 : List Step := [.base ⟨11, [.fact 0, .lit (.ci .i64 7), .lit (.ci .i64 2)], [⟨.one (.s), [(0, 0, 2)]⟩, ⟨.one (.s), [(0, 0, 3)]⟩], true⟩,
      .base ⟨11, [.fact 1, .lit (.ci .i64 6), .lit (.ci .i64 2)], [⟨.one (.s), [(0, 0, 4)]⟩, ⟨.one (.s), [(0, 0, 5)]⟩], true⟩,
      .base ⟨31, [.fact 2], [⟨.agg [.b, .s], [(0, 0, 6)]⟩, ⟨.one (.s), [(0, 0, 7)]⟩], true⟩,
      .base ⟨22, [.fact 7, .fact 6], [⟨.one (.s), [(0, 0, 8)]⟩], false⟩,
      .base ⟨15, [.fact 8, .fact 2], [⟨.one (.lit (.cb true)), []⟩], false⟩,
      .base ⟨0, [.fact 3], [⟨.one (.i), [(0, 0, 9)]⟩], .quiet (mLen 30)⟩,
      .base ⟨0, [.fact 9, .lit (.ci .i64 0)], [⟨.one (.lit (.cb true)), []⟩], .quiet (mBin .gtr)⟩,
      .base ⟨45, [.fact 7], [⟨.agg [.b, .s], [(0, 0, 10)]⟩], false⟩,
      .base ⟨46, [.fact 10], [⟨.one (.i), [(0, 0, 11)]⟩], false⟩,
      .base ⟨0, [.fact 11, .lit (.ci .i64 0)], [⟨.one (.lit (.cb false)), []⟩], .quiet (mBin .leq)⟩,
      .base ⟨0, [.any, .fact 7], [⟨.one (.s), [(0, 0, 12)]⟩], .fresh [] (mRow 112 1)⟩,
      .base ⟨34, [.fact 12], [⟨.agg [.b, .s], [(0, 0, 13)]⟩], false⟩,
      .base ⟨19, [.lit (.ci .i64 1)], [⟨.agg [.b, .s], [(0, 0, 14)]⟩], false⟩,
      .base ⟨47, [.fact 13, .fact 14], [⟨.one (.i), [(0, 0, 15)]⟩], false⟩,
      .base ⟨0, [.fact 15, .lit (.ci .i64 0)], [⟨.one (.lit (.cb false)), []⟩], .quiet (mBin .neq)⟩,
      .base ⟨0, [.fact 3], [⟨.one (.i), [(0, 0, 16)]⟩], .quiet (mLen 30)⟩,
      .base ⟨0, [.fact 16, .lit (.ci .i64 0)], [⟨.one (.lit (.cb false)), []⟩], .quiet (mBin .eql)⟩,
      .base ⟨0, [.fact 5], [⟨.one (.i), [(0, 0, 17)]⟩], .quiet (mLen 30)⟩,
      .base ⟨0, [.fact 17, .lit (.ci .i64 0)], [⟨.one (.lit (.cb true)), []⟩], .quiet (mBin .eql)⟩,
      .base ⟨13, [.fact 2, .fact 4], [⟨.one (.s), [(0, 0, 18)]⟩], false⟩,
      .base ⟨0, [.any, .fact 18], [⟨.one (.s), [(0, 0, 19)]⟩], .fresh [] (mRow 112 1)⟩,
      .base ⟨34, [.fact 19], [⟨.agg [.b, .s], [(0, 0, 20)]⟩], false⟩,
      .base ⟨36, [.fact 20], [⟨.one (.lit (.cb true)), []⟩], false⟩,
      .base ⟨37, [], [⟨.one (.lit (.cb true)), []⟩], false⟩]
def ins_path_1 : List Out := [⟨.one (.s), [(0, 0, 0)]⟩, ⟨.one (.s), [(0, 0, 1)]⟩]
set_option maxHeartbeats 1000000 in
set_option maxRecDepth 100000 in
theorem path_1 {aa ab : Nat → Bool} {xsa xsb : Nat → List Nat} {eza ezb : Nat → Int} {ma mb Na Nb : Nat} {lp : Int} {P SC ML : List Int} (hna : ma ≤ 9223372036854775807) (hza : ∀ j, sg (aa j) (Proofs.YtigkehblnlghkaaGreat.val 4294967296 ((xsa j).take 2)) = eza j) (hNna : min ma 7 = Na) (hnb : mb ≤ 9223372036854775807) (hzb : ∀ j, sg (ab j) (Proofs.YtigkehblnlghkaaGreat.val 4294967296 ((xsb j).take 2)) = ezb j) (hNnb : min mb 6 = Nb) (hP : dvL eza Na (pcon eza Na) = P) (hPl : P.length ≤ 7) (hSC : trimL (mk P.length (fun i => coef P i * pcon eza Na)) = SC) (hSCl : SC.length ≤ 7) (hML : mulL eza Na ezb Nb = ML) (hMLl : ML.length ≤ 13) (hE : ∀ i, upto SC.length (coef SC) i = upto Na eza i) (h0 : 0 < (trimL (mk Na eza)).length) (hlp : ldZ (coef P) P.length = lp) (hs1 : cmpI lp 0 = 1) (hg1 : cmpI (gcdZ (coef P) P.length : Int) (1 : Int) = 0) (h1 : (trimL (mk Nb ezb)).length = 0) (hz : decide ((gcdZ (coef ML) ML.length : Int) = 0) = true) : SiteOk (ph (b_path_1 aa ab xsa xsb eza ezb ma mb Na Nb lp P SC ML)) Tryz.prog ⟨9, [.fact 0, .fact 1], [⟨.one (.lit (.cb true)), []⟩], false⟩ := by
  skip
  exact fn_okL ins_path_1 [⟨.one (.lit (.cb true)), []⟩] ss_path_1 Tryz.func9 (by kernel_rfl)
    (lbase (sCut5 7 2 rfl rfl (fun _ _ h => h) rfl rfl (by omega) (by omega) (by omega) hza hNna)
      (lbase (sCut5 6 2 rfl rfl (fun _ _ h => h) rfl rfl (by omega) (by omega) (by omega) hzb hNnb)
      (lbase (sPrim (z := eza) (n := Na) (m := P.length) (fun _ _ h => Rw.to (sz := 2) (n := Na) (F := (fun ι w v => KI w v (aa ι) ((fun ι => (xsa ι).take 2) ι) (eza ι) 2)) (h) (fun i w v _ h => (fun _ _ _ h => And.right h) i w v h)) rfl rfl (by omega) (by omega) hP rfl)
      (lbase (sScaleP (z := (coef P)) (n := P.length) (fun _ _ h => Rw.to (sz := 2) (n := P.length) (F := (fun ι w v => NorV w v ((coef P) ι) 2)) (h) (fun i w v _ h => (fun _ _ _ h => NorV.i h) i w v h)) nI rfl (by omega) (by omega) hSC)
      (lbase (sSameT (z := (coef SC)) (n := SC.length) (y := eza) (m := Na) (fun _ _ h => Rw.to (sz := 2) (n := SC.length) (F := (fun ι w v => NorV w v ((coef SC) ι) (2 + 2))) (h) (fun i w v _ h => (fun _ _ _ h => NorV.i h) i w v h)) (fun _ _ h => Rw.to (sz := 2) (n := Na) (F := (fun ι w v => KI w v (aa ι) ((fun ι => (xsa ι).take 2) ι) (eza ι) 2)) (h) (fun i w v _ h => (fun _ _ _ h => And.right h) i w v h)) (by omega) (by omega) (by omega) (by omega) hE)
      (lbase (qLen (sz := 4) (n := (trimL (mk Na eza)).length) (F := (fun ι w v => DecQ w v ((((coef (trimL (mk Na eza))) ι : Int) : Rat)) (2 + 2 + 2))) Tryz.underlying30 (fun _ _ h => Rw.arr h) rfl)
      (lbase (qTestC (op := .gtr) (fun _ _ h => h) (ts_run (decide_eq_true (by omega)) (by simp)))
      (lbase (sLead (z := (coef P)) (n := P.length) (fun _ _ h => Rw.to (sz := 2) (n := P.length) (F := (fun ι w v => NorV w v ((coef P) ι) 2)) (h) (fun i w v _ h => (fun _ _ _ h => NorV.i h) i w v h)) rfl (by omega) (by omega) (hlp))
      (lbase (sISignJ nN rfl)
      (lbase (qTestC (op := .leq) (fun _ _ h => h) (ts_run (decide_eq_false (by omega)) (by simp)))
      (lbase (qRowP1 (z := (coef P)) (n := P.length) (fun _ _ h => Rw.to (sz := 2) (n := P.length) (F := (fun ι w v => NorV w v ((coef P) ι) 2)) (h) (fun i w v _ h => (fun _ _ _ h => NorV.i h) i w v h)) rfl)
      (lbase (sContent1 (z := (coef P)) (n := P.length) (fun _ _ h => h) rfl (by omega) (by omega))
      (lbase (sOf (z := 1) rfl (by decide) (by decide) rfl)
      (lbase (sCmpJ nI nI rfl (by omega) rfl)
      (lbase (qTestC (op := .neq) (fun _ _ h => h) (ts_run (decide_eq_false (fun h => h hg1)) (by simp)))
      (lbase (qLen (sz := 4) (n := (trimL (mk Na eza)).length) (F := (fun ι w v => DecQ w v ((((coef (trimL (mk Na eza))) ι : Int) : Rat)) (2 + 2 + 2))) Tryz.underlying30 (fun _ _ h => Rw.arr h) rfl)
      (lbase (qTestC (op := .eql) (fun _ _ h => h) (ts_run (decide_eq_false (by omega)) (by simp)))
      (lbase (qLen (sz := 4) (n := (trimL (mk Nb ezb)).length) (F := (fun ι w v => DecQ w v ((((coef (trimL (mk Nb ezb))) ι : Int) : Rat)) (2 + 2 + 2))) Tryz.underlying30 (fun _ _ h => Rw.arr h) rfl)
      (lbase (qTestC (op := .eql) (fun _ _ h => h) (ts_run (decide_eq_true (by omega)) (by simp)))
      (lbase (sPMul (c := 7) (z := eza) (n := Na) (y := ezb) (m := Nb) (fun _ _ h => Rw.to (sz := 2) (n := Na) (F := (fun ι w v => KI w v (aa ι) ((fun ι => (xsa ι).take 2) ι) (eza ι) 2)) (h) (fun i w v _ h => (fun _ _ _ h => And.right h) i w v h)) (fun _ _ h => Rw.to (sz := 2) (n := Nb) (F := (fun ι w v => KI w v (ab ι) ((fun ι => (xsb ι).take 2) ι) (ezb ι) 2)) (h) (fun i w v _ h => (fun _ _ _ h => And.right h) i w v h)) rfl (by omega) (by omega) (by omega) (by omega) (by omega) hML)
      (lbase (qRowP1 (z := (coef ML)) (n := ML.length) (fun _ _ h => Rw.to (sz := 2) (n := ML.length) (F := (fun ι w v => NorV w v ((coef ML) ι) (2 + 2 + 7 + 1))) (h) (fun i w v _ h => (fun _ _ _ h => NorV.i h) i w v h)) rfl)
      (lbase (sContent1 (z := (coef ML)) (n := ML.length) (fun _ _ h => h) rfl (by omega) (by omega))
      (lbase (sIZero nN hz)
      (lbase (sWakes6)
      lnil))))))))))))))))))))))))
    (ins_ok [.fact 0 (.one (.s)), .fact 1 (.one (.s))] ⟨fun _ _ h => Rw.is (sz := 2) (F := (fun ι w v => RawI w v (aa ι) (xsa ι))) (n := ma) h, fun _ _ h => Rw.is (sz := 2) (F := (fun ι w v => RawI w v (ab ι) (xsb ι))) (n := mb) h, trivial⟩) (fun _ _ _ h => h)

def b_path_2 (aa ab : Nat → Bool) (xsa xsb : Nat → List Nat) (eza ezb : Nat → Int) (ma mb Na Nb : Nat) (lp : Int) (P SC ML : List Int) : List (World → Value → Prop) := [fun w v => Rw 2 (fun ι w v => RawI w v (aa ι) (xsa ι)) ma w v, fun w v => Rw 2 (fun ι w v => RawI w v (ab ι) (xsb ι)) mb w v, fun w v => Rw 2 (fun ι w v => KI w v (aa ι) ((fun ι => (xsa ι).take 2) ι) (eza ι) 2) Na w v, fun w v => Rw 4 (fun ι w v => DecQ w v ((((coef (trimL (mk Na eza))) ι : Int) : Rat)) (2 + 2 + 2)) ((trimL (mk Na eza)).length) w v, fun w v => Rw 2 (fun ι w v => KI w v (ab ι) ((fun ι => (xsb ι).take 2) ι) (ezb ι) 2) Nb w v, fun w v => Rw 4 (fun ι w v => DecQ w v ((((coef (trimL (mk Nb ezb))) ι : Int) : Rat)) (2 + 2 + 2)) ((trimL (mk Nb ezb)).length) w v, fun w v => NorV w v (pcon eza Na) 2, fun w v => Rw 2 (fun ι w v => NorV w v ((coef P) ι) 2) P.length w v, fun w v => Rw 2 (fun ι w v => NorV w v ((coef SC) ι) (2 + 2)) SC.length w v, fun _ v => v = .int .i64 (((trimL (mk Na eza)).length : Nat) : Int), fun w v => NorV w v lp 2, fun _ v => v = .int .i64 (cmpI lp 0), fun w v => Rw 1 (PRow (fun _ => (coef P)) (fun _ => P.length) 2) 1 w v, fun w v => NorV w v (gcdZ (coef P) P.length : Int) 2, fun w v => NorV w v (1 : Int) 2, fun _ v => v = .int .i64 (cmpI (gcdZ (coef P) P.length : Int) (1 : Int)), fun _ v => v = .int .i64 (((trimL (mk Na eza)).length : Nat) : Int), fun _ v => v = .int .i64 (((trimL (mk Nb ezb)).length : Nat) : Int), fun w v => Rw 2 (fun ι w v => NorV w v ((coef ML) ι) (2 + 2 + 7 + 1)) ML.length w v, fun w v => Rw 1 (PRow (fun _ => (coef ML)) (fun _ => ML.length) (2 + 2 + 7 + 1)) 1 w v, fun w v => NorV w v (gcdZ (coef ML) ML.length : Int) (2 + 2 + 7 + 1), fun w v => Rw 1 (PRow (fun _ => eza) (fun _ => Na) 2) 1 w v, fun w v => NorV w v (gcdZ eza Na : Int) 2, fun w v => Rw 1 (PRow (fun _ => ezb) (fun _ => Nb) 2) 1 w v, fun w v => NorV w v (gcdZ ezb Nb : Int) 2, fun w v => NorV w v ((gcdZ eza Na : Int) * (gcdZ ezb Nb : Int)) (2 + 2), fun _ v => v = .int .i64 (cmpI (gcdZ (coef ML) ML.length : Int) ((gcdZ eza Na : Int) * (gcdZ ezb Nb : Int))), fun w v => NorV w v ((pcon eza Na).natAbs : Int) 2, fun w v => Rw 1 (PRow (fun _ => eza) (fun _ => Na) 2) 1 w v, fun w v => NorV w v (gcdZ eza Na : Int) 2, fun _ v => v = .int .i64 (cmpI ((pcon eza Na).natAbs : Int) (gcdZ eza Na : Int))]
def ss_path_2 : List Step := [.base ⟨11, [.fact 0, .lit (.ci .i64 7), .lit (.ci .i64 2)], [⟨.one (.s), [(0, 0, 2)]⟩, ⟨.one (.s), [(0, 0, 3)]⟩], true⟩,
      .base ⟨11, [.fact 1, .lit (.ci .i64 6), .lit (.ci .i64 2)], [⟨.one (.s), [(0, 0, 4)]⟩, ⟨.one (.s), [(0, 0, 5)]⟩], true⟩,
      .base ⟨31, [.fact 2], [⟨.agg [.b, .s], [(0, 0, 6)]⟩, ⟨.one (.s), [(0, 0, 7)]⟩], true⟩,
      .base ⟨22, [.fact 7, .fact 6], [⟨.one (.s), [(0, 0, 8)]⟩], false⟩,
      .base ⟨15, [.fact 8, .fact 2], [⟨.one (.lit (.cb true)), []⟩], false⟩,
      .base ⟨0, [.fact 3], [⟨.one (.i), [(0, 0, 9)]⟩], .quiet (mLen 30)⟩,
      .base ⟨0, [.fact 9, .lit (.ci .i64 0)], [⟨.one (.lit (.cb true)), []⟩], .quiet (mBin .gtr)⟩,
      .base ⟨45, [.fact 7], [⟨.agg [.b, .s], [(0, 0, 10)]⟩], false⟩,
      .base ⟨46, [.fact 10], [⟨.one (.i), [(0, 0, 11)]⟩], false⟩,
      .base ⟨0, [.fact 11, .lit (.ci .i64 0)], [⟨.one (.lit (.cb false)), []⟩], .quiet (mBin .leq)⟩,
      .base ⟨0, [.any, .fact 7], [⟨.one (.s), [(0, 0, 12)]⟩], .fresh [] (mRow 112 1)⟩,
      .base ⟨34, [.fact 12], [⟨.agg [.b, .s], [(0, 0, 13)]⟩], false⟩,
      .base ⟨19, [.lit (.ci .i64 1)], [⟨.agg [.b, .s], [(0, 0, 14)]⟩], false⟩,
      .base ⟨47, [.fact 13, .fact 14], [⟨.one (.i), [(0, 0, 15)]⟩], false⟩,
      .base ⟨0, [.fact 15, .lit (.ci .i64 0)], [⟨.one (.lit (.cb false)), []⟩], .quiet (mBin .neq)⟩,
      .base ⟨0, [.fact 3], [⟨.one (.i), [(0, 0, 16)]⟩], .quiet (mLen 30)⟩,
      .base ⟨0, [.fact 16, .lit (.ci .i64 0)], [⟨.one (.lit (.cb false)), []⟩], .quiet (mBin .eql)⟩,
      .base ⟨0, [.fact 5], [⟨.one (.i), [(0, 0, 17)]⟩], .quiet (mLen 30)⟩,
      .base ⟨0, [.fact 17, .lit (.ci .i64 0)], [⟨.one (.lit (.cb false)), []⟩], .quiet (mBin .eql)⟩,
      .base ⟨13, [.fact 2, .fact 4], [⟨.one (.s), [(0, 0, 18)]⟩], false⟩,
      .base ⟨0, [.any, .fact 18], [⟨.one (.s), [(0, 0, 19)]⟩], .fresh [] (mRow 112 1)⟩,
      .base ⟨34, [.fact 19], [⟨.agg [.b, .s], [(0, 0, 20)]⟩], false⟩,
      .base ⟨0, [.any, .fact 2], [⟨.one (.s), [(0, 0, 21)]⟩], .fresh [] (mRow 112 1)⟩,
      .base ⟨34, [.fact 21], [⟨.agg [.b, .s], [(0, 0, 22)]⟩], false⟩,
      .base ⟨0, [.any, .fact 4], [⟨.one (.s), [(0, 0, 23)]⟩], .fresh [] (mRow 112 1)⟩,
      .base ⟨34, [.fact 23], [⟨.agg [.b, .s], [(0, 0, 24)]⟩], false⟩,
      .base ⟨48, [.fact 22, .fact 24], [⟨.agg [.b, .s], [(0, 0, 25)]⟩], false⟩,
      .base ⟨47, [.fact 20, .fact 25], [⟨.one (.i), [(0, 0, 26)]⟩], false⟩,
      .base ⟨0, [.fact 26, .lit (.ci .i64 0)], [⟨.one (.lit (.cb true)), []⟩], .quiet (mBin .eql)⟩,
      .base ⟨49, [.fact 6], [⟨.agg [.b, .s], [(0, 0, 27)]⟩], false⟩,
      .base ⟨0, [.any, .fact 2], [⟨.one (.s), [(0, 0, 28)]⟩], .fresh [] (mRow 112 1)⟩,
      .base ⟨34, [.fact 28], [⟨.agg [.b, .s], [(0, 0, 29)]⟩], false⟩,
      .base ⟨47, [.fact 27, .fact 29], [⟨.one (.i), [(0, 0, 30)]⟩], false⟩,
      .base ⟨0, [.fact 30, .lit (.ci .i64 0)], [⟨.one (.lit (.cb true)), []⟩], .quiet (mBin .eql)⟩,
      .base ⟨37, [], [⟨.one (.lit (.cb true)), []⟩], false⟩]
def ins_path_2 : List Out := [⟨.one (.s), [(0, 0, 0)]⟩, ⟨.one (.s), [(0, 0, 1)]⟩]
set_option maxHeartbeats 1000000 in
set_option maxRecDepth 100000 in
theorem path_2 {aa ab : Nat → Bool} {xsa xsb : Nat → List Nat} {eza ezb : Nat → Int} {ma mb Na Nb : Nat} {lp : Int} {P SC ML : List Int} (hna : ma ≤ 9223372036854775807) (hza : ∀ j, sg (aa j) (Proofs.YtigkehblnlghkaaGreat.val 4294967296 ((xsa j).take 2)) = eza j) (hNna : min ma 7 = Na) (hnb : mb ≤ 9223372036854775807) (hzb : ∀ j, sg (ab j) (Proofs.YtigkehblnlghkaaGreat.val 4294967296 ((xsb j).take 2)) = ezb j) (hNnb : min mb 6 = Nb) (hP : dvL eza Na (pcon eza Na) = P) (hPl : P.length ≤ 7) (hSC : trimL (mk P.length (fun i => coef P i * pcon eza Na)) = SC) (hSCl : SC.length ≤ 7) (hML : mulL eza Na ezb Nb = ML) (hMLl : ML.length ≤ 13) (hE : ∀ i, upto SC.length (coef SC) i = upto Na eza i) (h0 : 0 < (trimL (mk Na eza)).length) (hlp : ldZ (coef P) P.length = lp) (hs1 : cmpI lp 0 = 1) (hg1 : cmpI (gcdZ (coef P) P.length : Int) (1 : Int) = 0) (h1 : 0 < (trimL (mk Nb ezb)).length) (hm : cmpI (gcdZ (coef ML) ML.length : Int) ((gcdZ eza Na : Int) * (gcdZ ezb Nb : Int)) = 0) (ha : cmpI ((pcon eza Na).natAbs : Int) (gcdZ eza Na : Int) = 0) : SiteOk (ph (b_path_2 aa ab xsa xsb eza ezb ma mb Na Nb lp P SC ML)) Tryz.prog ⟨9, [.fact 0, .fact 1], [⟨.one (.lit (.cb true)), []⟩], false⟩ := by
  skip
  exact fn_okL ins_path_2 [⟨.one (.lit (.cb true)), []⟩] ss_path_2 Tryz.func9 (by kernel_rfl)
    (lbase (sCut5 7 2 rfl rfl (fun _ _ h => h) rfl rfl (by omega) (by omega) (by omega) hza hNna)
      (lbase (sCut5 6 2 rfl rfl (fun _ _ h => h) rfl rfl (by omega) (by omega) (by omega) hzb hNnb)
      (lbase (sPrim (z := eza) (n := Na) (m := P.length) (fun _ _ h => Rw.to (sz := 2) (n := Na) (F := (fun ι w v => KI w v (aa ι) ((fun ι => (xsa ι).take 2) ι) (eza ι) 2)) (h) (fun i w v _ h => (fun _ _ _ h => And.right h) i w v h)) rfl rfl (by omega) (by omega) hP rfl)
      (lbase (sScaleP (z := (coef P)) (n := P.length) (fun _ _ h => Rw.to (sz := 2) (n := P.length) (F := (fun ι w v => NorV w v ((coef P) ι) 2)) (h) (fun i w v _ h => (fun _ _ _ h => NorV.i h) i w v h)) nI rfl (by omega) (by omega) hSC)
      (lbase (sSameT (z := (coef SC)) (n := SC.length) (y := eza) (m := Na) (fun _ _ h => Rw.to (sz := 2) (n := SC.length) (F := (fun ι w v => NorV w v ((coef SC) ι) (2 + 2))) (h) (fun i w v _ h => (fun _ _ _ h => NorV.i h) i w v h)) (fun _ _ h => Rw.to (sz := 2) (n := Na) (F := (fun ι w v => KI w v (aa ι) ((fun ι => (xsa ι).take 2) ι) (eza ι) 2)) (h) (fun i w v _ h => (fun _ _ _ h => And.right h) i w v h)) (by omega) (by omega) (by omega) (by omega) hE)
      (lbase (qLen (sz := 4) (n := (trimL (mk Na eza)).length) (F := (fun ι w v => DecQ w v ((((coef (trimL (mk Na eza))) ι : Int) : Rat)) (2 + 2 + 2))) Tryz.underlying30 (fun _ _ h => Rw.arr h) rfl)
      (lbase (qTestC (op := .gtr) (fun _ _ h => h) (ts_run (decide_eq_true (by omega)) (by simp)))
      (lbase (sLead (z := (coef P)) (n := P.length) (fun _ _ h => Rw.to (sz := 2) (n := P.length) (F := (fun ι w v => NorV w v ((coef P) ι) 2)) (h) (fun i w v _ h => (fun _ _ _ h => NorV.i h) i w v h)) rfl (by omega) (by omega) (hlp))
      (lbase (sISignJ nN rfl)
      (lbase (qTestC (op := .leq) (fun _ _ h => h) (ts_run (decide_eq_false (by omega)) (by simp)))
      (lbase (qRowP1 (z := (coef P)) (n := P.length) (fun _ _ h => Rw.to (sz := 2) (n := P.length) (F := (fun ι w v => NorV w v ((coef P) ι) 2)) (h) (fun i w v _ h => (fun _ _ _ h => NorV.i h) i w v h)) rfl)
      (lbase (sContent1 (z := (coef P)) (n := P.length) (fun _ _ h => h) rfl (by omega) (by omega))
      (lbase (sOf (z := 1) rfl (by decide) (by decide) rfl)
      (lbase (sCmpJ nI nI rfl (by omega) rfl)
      (lbase (qTestC (op := .neq) (fun _ _ h => h) (ts_run (decide_eq_false (fun h => h hg1)) (by simp)))
      (lbase (qLen (sz := 4) (n := (trimL (mk Na eza)).length) (F := (fun ι w v => DecQ w v ((((coef (trimL (mk Na eza))) ι : Int) : Rat)) (2 + 2 + 2))) Tryz.underlying30 (fun _ _ h => Rw.arr h) rfl)
      (lbase (qTestC (op := .eql) (fun _ _ h => h) (ts_run (decide_eq_false (by omega)) (by simp)))
      (lbase (qLen (sz := 4) (n := (trimL (mk Nb ezb)).length) (F := (fun ι w v => DecQ w v ((((coef (trimL (mk Nb ezb))) ι : Int) : Rat)) (2 + 2 + 2))) Tryz.underlying30 (fun _ _ h => Rw.arr h) rfl)
      (lbase (qTestC (op := .eql) (fun _ _ h => h) (ts_run (decide_eq_false (by omega)) (by simp)))
      (lbase (sPMul (c := 7) (z := eza) (n := Na) (y := ezb) (m := Nb) (fun _ _ h => Rw.to (sz := 2) (n := Na) (F := (fun ι w v => KI w v (aa ι) ((fun ι => (xsa ι).take 2) ι) (eza ι) 2)) (h) (fun i w v _ h => (fun _ _ _ h => And.right h) i w v h)) (fun _ _ h => Rw.to (sz := 2) (n := Nb) (F := (fun ι w v => KI w v (ab ι) ((fun ι => (xsb ι).take 2) ι) (ezb ι) 2)) (h) (fun i w v _ h => (fun _ _ _ h => And.right h) i w v h)) rfl (by omega) (by omega) (by omega) (by omega) (by omega) hML)
      (lbase (qRowP1 (z := (coef ML)) (n := ML.length) (fun _ _ h => Rw.to (sz := 2) (n := ML.length) (F := (fun ι w v => NorV w v ((coef ML) ι) (2 + 2 + 7 + 1))) (h) (fun i w v _ h => (fun _ _ _ h => NorV.i h) i w v h)) rfl)
      (lbase (sContent1 (z := (coef ML)) (n := ML.length) (fun _ _ h => h) rfl (by omega) (by omega))
      (lbase (qRowP1 (z := eza) (n := Na) (fun _ _ h => Rw.to (sz := 2) (n := Na) (F := (fun ι w v => KI w v (aa ι) ((fun ι => (xsa ι).take 2) ι) (eza ι) 2)) (h) (fun i w v _ h => (fun _ _ _ h => And.right h) i w v h)) rfl)
      (lbase (sContent1 (z := eza) (n := Na) (fun _ _ h => h) rfl (by omega) (by omega))
      (lbase (qRowP1 (z := ezb) (n := Nb) (fun _ _ h => Rw.to (sz := 2) (n := Nb) (F := (fun ι w v => KI w v (ab ι) ((fun ι => (xsb ι).take 2) ι) (ezb ι) 2)) (h) (fun i w v _ h => (fun _ _ _ h => And.right h) i w v h)) rfl)
      (lbase (sContent1 (z := ezb) (n := Nb) (fun _ _ h => h) rfl (by omega) (by omega))
      (lbase (sMul nI nI rfl (by omega) rfl)
      (lbase (sCmpJ nI nI rfl (by omega) rfl)
      (lbase (qTestC (op := .eql) (fun _ _ h => h) (ts_run (decide_eq_true hm) (by simp)))
      (lbase (sAbs nI rfl (by omega) rfl)
      (lbase (qRowP1 (z := eza) (n := Na) (fun _ _ h => Rw.to (sz := 2) (n := Na) (F := (fun ι w v => KI w v (aa ι) ((fun ι => (xsa ι).take 2) ι) (eza ι) 2)) (h) (fun i w v _ h => (fun _ _ _ h => And.right h) i w v h)) rfl)
      (lbase (sContent1 (z := eza) (n := Na) (fun _ _ h => h) rfl (by omega) (by omega))
      (lbase (sCmpJ nI nI rfl (by omega) rfl)
      (lbase (qTestC (op := .eql) (fun _ _ h => h) (ts_run (decide_eq_true ha) (by simp)))
      (lbase (sWakes6)
      lnil)))))))))))))))))))))))))))))))))))
    (ins_ok [.fact 0 (.one (.s)), .fact 1 (.one (.s))] ⟨fun _ _ h => Rw.is (sz := 2) (F := (fun ι w v => RawI w v (aa ι) (xsa ι))) (n := ma) h, fun _ _ h => Rw.is (sz := 2) (F := (fun ι w v => RawI w v (ab ι) (xsb ι))) (n := mb) h, trivial⟩) (fun _ _ _ h => h)

theorem walk {ma mb : Nat} {aa ab : Nat → Bool} {xsa xsb : Nat → List Nat} {w : World} {va vb : Value} (hna : ma ≤ 9223372036854775807) (hla : Rw 2 (fun i w v => RawI w v (aa i) (xsa i)) ma w va) (hnb : mb ≤ 9223372036854775807) (hlb : Rw 2 (fun i w v => RawI w v (ab i) (xsb i)) mb w vb) : Calls Tryz.prog 9 #[va, vb] w (Bool_ w true) := by
  obtain ⟨eza, hza⟩ : ∃ ez : Nat → Int, ∀ j, sg (aa j) (Proofs.YtigkehblnlghkaaGreat.val 4294967296 ((xsa j).take 2)) = ez j := ⟨_, fun _ => rfl⟩
  obtain ⟨Na, hNna⟩ : ∃ N, min ma 7 = N := ⟨_, rfl⟩
  obtain ⟨ezb, hzb⟩ : ∃ ez : Nat → Int, ∀ j, sg (ab j) (Proofs.YtigkehblnlghkaaGreat.val 4294967296 ((xsb j).take 2)) = ez j := ⟨_, fun _ => rfl⟩
  obtain ⟨Nb, hNnb⟩ : ∃ N, min mb 6 = N := ⟨_, rfl⟩
  obtain ⟨P, hP⟩ : ∃ L, dvL eza Na (pcon eza Na) = L := ⟨_, rfl⟩
  obtain ⟨SC, hSC⟩ : ∃ L, trimL (mk P.length (fun i => coef P i * pcon eza Na)) = L := ⟨_, rfl⟩
  obtain ⟨ML, hML⟩ : ∃ L, mulL eza Na ezb Nb = L := ⟨_, rfl⟩
  have hlea := tl_le eza Na
  have hPl : P.length ≤ 7 := by rw [← hP, dvL, mk_length]; omega
  have hSCl : SC.length ≤ 7 := by rw [← hSC, trimL_mk]; exact Nat.le_trans (tl_le _ _) hPl
  have hMLl : ML.length ≤ 13 := by rw [← hML]; exact Nat.le_trans (mulL_le _ _ _ _) (by omega)
  have hE : ∀ i, upto SC.length (coef SC) i = upto Na eza i := fun i => by
    rw [upto_coef, ← hSC, coef_tm, ← prim_mul (z := eza) (n := Na) i, hP]
    unfold upto
    split
    · rfl
    · rw [coef_out (by omega), Int.zero_mul]
  have hz : tl eza Na = 0 ∨ tl ezb Nb = 0 → decide ((gcdZ (coef ML) ML.length : Int) = 0) = true := fun h => by
    have : ML = [] := by rw [← hML, mulL, if_pos h]
    rw [this]; rfl
  have hargs : ∀ Φ : Nat → World → Value → Prop, Φ 0 = (fun w v => Rw 2 (fun i w v => RawI w v (aa i) (xsa i)) ma w v) → Φ 1 = (fun w v => Rw 2 (fun i w v => RawI w v (ab i) (xsb i)) mb w v) → argsOk Φ (fun _ => False) w [.fact 0, .fact 1] [va, vb] := fun Φ h0 h1 => ⟨arg_poly hla h0, arg_poly hlb h1, trivial⟩
  rcases Nat.eq_zero_or_pos (tl eza Na) with h0 | h0
  · exact law_true (path_0 hna hza hNna hnb hzb hNnb hP hPl hSC hSCl hML hMLl hE (by rw [trimL_mk]; exact h0) (hz (.inl h0))) (vs := [va, vb]) (hargs _ rfl rfl)
  have hs1 : cmpI (ldZ (coef P) P.length) 0 = 1 := by
    have := prim_lead h0
    rw [hP] at this
    rw [cmpI, if_neg (by omega), if_neg (by omega)]
  have hg1 : cmpI (gcdZ (coef P) P.length : Int) (1 : Int) = 0 := by
    have := prim_gcd h0
    rw [hP] at this
    rw [this]; rfl
  rcases Nat.eq_zero_or_pos (tl ezb Nb) with h1 | h1
  · exact law_true (path_1 hna hza hNna hnb hzb hNnb hP hPl hSC hSCl hML hMLl hE (by rw [trimL_mk]; exact h0) rfl hs1 hg1 (by rw [trimL_mk]; exact h1) (hz (.inr h1))) (vs := [va, vb]) (hargs _ rfl rfl)
  · exact law_true (path_2 hna hza hNna hnb hzb hNnb hP hPl hSC hSCl hML hMLl hE (by rw [trimL_mk]; exact h0) rfl hs1 hg1 (by rw [trimL_mk]; exact h1) (by
      rw [← hML, con_mul h0 h1, Int.natCast_mul]; exact cmpI_self _) (by rw [pcon_abs]; exact cmpI_self _)) (vs := [va, vb]) (hargs _ rfl rfl)
set_option maxRecDepth 100000 in
theorem lifted (os : Os) (started : os.Started) (H : Type) (enc : TypeId × Value → H) :
    ReturnsInHanded {} Tryz.checked os 9 .any (Rows.pdivPartsSpec.pre6 enc Tryz.prog Tryz.f9 Rows.pdivPartsRow.domain false) (Rows.pdivPartsSpec.post enc Tryz.prog Tryz.f9 false true false false) := by
  refine returnsInHanded_of_change (C := Tryz.checked) Tryz.own started (by kernel_rfl) Tryz.func9
    (ChangeSpec.witness6 (enc := enc) (C := Tryz.checked) false ⟨#[], #[.slice none 0 0, .slice none 0 0], []⟩ 8 (by kernel_rfl) (by kernel_rfl) (by kernel_rfl) (by kernel_rfl)) ?_
  intro W base args ds gs before hval0 hW _ _
  have hval : ∀ (j : Nat) t v, Tryz.f9.params[j]? = some t → args[j]? = some v → Value.okWide Tryz.prog W .any base t v := hval0
  obtain ⟨p, q, hA0, hV, rfl, _, _⟩ := id hW
  have hA : DataW.TrodAll enc Tryz.prog W 0 (fun _ => true) true Tryz.f9.params.toList args.toList ds p := hA0
  rw [Tryz.params9] at hA hval
  obtain ⟨v0, vs0, d0, ds0, p0, q0, hargs, rfl, rfl, h0, r0⟩ := trodAll_cons hA
  obtain ⟨v1, vs1, d1, ds1, p1, q1, rfl, rfl, rfl, h1, r1⟩ := trodAll_cons r0
  obtain ⟨rfl, rfl, rfl⟩ := trodAll_nil r1
  obtain rfl : args = #[v0, v1] := by cases args; simp_all
  obtain ⟨n0, a0, xs0, l0, s0⟩ := poly_of_trod h0 (hval 0 23 v0 rfl rfl)
  obtain ⟨n1, a1, xs1, l1, s1⟩ := poly_of_trod h1 (hval 1 23 v1 rfl rfl)
  refine (walk l0 s0 l1 s1).mono fun e W' ⟨he, hg⟩ => ?_
  subst he
  refine ⟨_, rfl, law_post Tryz.laidOut rfl (by kernel_rfl) Tryz.underlying4 ?_ ?_ hW hg⟩
  · rw [Tryz.params9]; decide +kernel
  · rw [Tryz.params9]
    intro ds h
    match ds, h with
    | [_, _], _ => rfl

theorem holds : Rows.PdivPartsSaid :=
  OpenClaim.holds_of_wide 9 Tryz.f9 rfl rfl rfl rfl rfl rfl rfl ⟨rfl, rfl, rfl, rfl, rfl⟩ rfl rfl rfl rfl rfl (by kernel_rfl) Tryz.func9 (by kernel_rfl)
    (of_decide_eq_true (by kernel_rfl)) (by unfold Func.isWrapper; first | (rw [if_pos (by decide +kernel)]; kernel_rfl) | (rw [if_neg (by decide +kernel)]; exact ⟨rfl, rfl⟩))
    (fun os started H enc _ => lifted os started H enc)

end Go.Proofs.YtigkehblnlghkaaGreat.vparts
