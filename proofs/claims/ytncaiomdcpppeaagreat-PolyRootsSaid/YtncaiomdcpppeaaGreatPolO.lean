/- Numbers told by facts as arguments of Of, Pow, ratio.Of and Within; a row of two numbers; sizes of what is moved. -/
import Derived.Test.YtncaiomdcpppeaaGreatPolM
import Derived.Test.YtncaiomdcpppeaaGreatPolS
import Derived.Test.YtncaiomdcpppeaaGreatPolK
import Derived.Test.YtncaiomdcpppeaaGreatPolN
import Derived.Test.YtncaiomdcpppeaaGreatPows
namespace Go.Proofs.YtncaiomdcpppeaaGreat.Sym
open Go.RowKit
/-- A number as one from 0 to n - 1. -/
def wi5 (v : Int) (n : Nat) : Nat := (if v.tmod n < 0 then v.tmod n + n else v.tmod n).toNat
theorem wi5_facts (v : Int) {n : Nat} (hn : 1 ≤ n) : v.tmod n < n ∧ -(n : Int) < v.tmod n := by
  refine ⟨Int.tmod_lt_of_pos v (show (0 : Int) < n by omega), ?_⟩
  rcases Int.le_total 0 v with h | h
  · have := Int.tmod_nonneg (b := (n : Int)) h; omega
  · have e := Int.neg_tmod (a := -v) (b := (n : Int))
    rw [Int.neg_neg] at e
    have := Int.tmod_lt_of_pos (-v) (show (0 : Int) < n by omega)
    omega
theorem wi5_lt (v : Int) {n : Nat} (hn : 1 ≤ n) : wi5 v n < n := by
  obtain ⟨t, t2⟩ := wi5_facts v hn
  unfold wi5
  split <;> omega
theorem Within5_eq (v : Int) (n : Nat) (w : World) (hn : 1 ≤ n) (hn2 : n ≤ 1000000) :
    Calls Tryz.prog 37 #[.int .i64 v, .int .i64 n] w fun e w' => e = .returned (.int .i64 (wi5 v n)) ∧ w = w' := by
  have h1 : ¬ (n : Int) < 1 := by omega
  have h2 : (1 : Int) ≤ (n : Int) := by omega
  obtain ⟨t, t2⟩ := wi5_facts v hn
  by_cases hk : v.tmod n < 0
  · have E : Hid ((wi5 v n : Int) = v.tmod n + n) := Lib.hid (by unfold wi5; rw [if_pos hk]; omega)
    go_enter Tryz.func37, Tryz.ntmps37
    go_wp2
    go_ret
    exact ⟨ret_int (by rw [E.out]), rfl⟩
  · have E : Hid ((wi5 v n : Int) = v.tmod n) := Lib.hid (by unfold wi5; rw [if_neg hk]; omega)
    go_enter Tryz.func37, Tryz.ntmps37
    go_wp2
    go_ret
    exact ⟨ret_int (by rw [E.out]), rfl⟩
def z2 (a b : Int) : Nat → Int
  | 0 => a
  | _ => b
section
variable {Φ : Nat → World → Value → Prop} {p q x x1 x2 j i K : Nat} {a b t z y m : Int}
theorem sWithin5 {n k : Nat} {ni : Int} (hn : (n : Int) = ni) (hp : ∀ w v, Φ p w v → v = .int .i64 m) (h1 : 1 ≤ n) (h2 : n ≤ 1000000) (hw : wi5 m n = k) (hx : Φ x = fun _ v => v = .int .i64 (k : Int)) : SiteOk Φ Tryz.prog ⟨37, [.fact p, .lit (.ci .i64 ni)], [⟨.one .i, [(0, 0, x)]⟩], false⟩ := site2 fun X w v u g1 g2 => by
  subst hn
  rw [hp _ _ (get g1)]
  have h3 : u = .int .i64 (n : Int) := g2
  subst h3
  refine (Within5_eq m n w h1 h2).mono fun e w' h => ?_
  obtain ⟨rfl, rfl⟩ := h
  rw [hw]
  exact ⟨grown_refl _ _, [_], rfl, ⟨⟨⟨_, rfl⟩, fun _ h => by cases h⟩, fun q hq w1 hw => by
    simp only [List.mem_singleton] at hq; subst hq
    show Φ x w1 _; rw [hx]; rfl⟩, trivial⟩
theorem sROfJ {t : Rat} (hp : ∀ w v, Φ p w v → v = .int .i64 z) (hq : ∀ w v, Φ q w v → v = .int .i64 y) (hx : Φ x = fun w v => NorQ w v t 4) (hx1 : Φ x1 = fun w v => NorV w v t.num 4) (hx2 : Φ x2 = fun w v => NorV w v (t.den : Int) 4) (hz : -9223372036854775808 ≤ z ∧ z ≤ 9223372036854775807) (hy : -9223372036854775808 ≤ y ∧ y ≤ 9223372036854775807) (y0 : y ≠ 0) (ht : Rat.divInt z y = t) : SiteOk Φ Tryz.prog ⟨38, [.fact p, .fact q], [⟨qS, [(0, 0, x), (0, 2, x1), (2, 2, x2)]⟩, ⟨.one (.lit (.ci .i64 0)), []⟩], true⟩ :=
  site2 fun _ w v u h0 h1 => by
    rw [hp _ _ (get h0), hq _ _ (get h1)]
    exact (ROf_g z y hz.1 hz.2 hy.1 hy.2 y0 ht).mono fun _ _ h => pstPE hx hx1 hx2 h
theorem sPowJ (k : Nat) (hp : ∀ w v, Φ p w v → IntV w v a i) (hq : ∀ w v, Φ q w v → v = .int .i64 (k : Int)) (hx : Φ x = fun w v => NorV w v t K) (hk : k ≤ 256) (hi : i ≤ 1000) (ht : a ^ k = t) (hK : Bd t.natAbs K) : SiteOk Φ Tryz.prog ⟨36, [.fact p, .fact q], [⟨iS, [(0, 0, x)]⟩], false⟩ :=
  viaG (Ψ := ph [fun w v => IntV w v a i, fun _ v => v = .int .i64 (k : Int), fun w v => NorV w v t (i * 256 + 1)]) (ar' := [.fact 0, .fact 1]) (outs' := [⟨iS, [(0, 0, 2)]⟩])
    (site2 fun _ w v u h0 h1 => by
      rw [show u = .int .i64 (k : Int) from get h1]
      exact ((Pow_i k k (.inr (.inl ⟨rfl, hk⟩)) (get h0) hi).mono fun _ _ h => h.got).mono fun _ _ h => pstI (show _ = fun w v => NorV w v (a ^ k) (i * 256 + 1) by rw [ht]; rfl) h)
    ⟨hp, hq, trivial⟩ ⟨⟨rfl, ⟨rfl, rfl, fun _ _ h => hx ▸ NorV.re h hK⟩, trivial⟩, trivial⟩
theorem qRowZ2 (hp : ∀ w v, Φ p w v → v = .int .i64 a) (hq : ∀ w v, Φ q w v → v = .int .i64 b) (hx : Φ x = fun w v => Rw 1 (fun i _ v => v = .agg #[.int .i64 (z2 a b i)]) 2 w v) : SiteOk Φ Tryz.prog ⟨0, [.any, .fact p, .fact q], [⟨.one .s, [(0, 0, x)]⟩], .loose [] j 0 (mRow 34 2)⟩ :=
  qRow (ps := [p, q]) (zc := .one (.ci .i64 0)) Tryz.underlying34 (by kernel_rfl) (by kernel_rfl) rfl (by omega) rfl (fun i r h w v hv => by
    match i, h with
    | 0, h =>
      obtain rfl := Option.some.inj h
      obtain rfl := hp w v hv
      exact ⟨rfl, rfl⟩
    | 1, h =>
      obtain rfl := Option.some.inj h
      obtain rfl := hq w v hv
      exact ⟨rfl, rfl⟩
    | i + 2, h => simp at h) hx
end
theorem hsum_bd {c : Nat → Int} {u : Int} {K ku m : Nat} (hc : ∀ i, i < m → Bd (c i).natAbs K) (hu : Bd u.natAbs ku) : ∀ r i, i + r ≤ m → Bd (hsum c u r i).natAbs (K + r * (ku + 1))
  | 0, _, _ => by
    simp only [hsum]
    exact Nat.pow_pos (by omega)
  | r + 1, i, h => by
    have h1 := Bd.mul (hsum_bd hc hu r (i + 1) (by omega)) hu
    have h2 := Bd.add1 ((hc i (by omega)).more (j := K + r * (ku + 1) + ku) (by omega)) h1
    rw [← Int.natAbs_mul] at h2
    simp only [hsum]
    refine (h2.le (Int.natAbs_add_le _ _)).more ?_
    rw [Nat.succ_mul]; omega
theorem shS_bd {c : Nat → Int} {u : Int} {K ku m : Nat} (hc : ∀ i, i < m → Bd (c i).natAbs K) (hu : Bd u.natAbs ku) : ∀ j i, i < m → Bd (shS c u m j i).natAbs (K + j * (m * (ku + 1)))
  | 0, i, hi => by
    simp only [shS]
    exact (hc i hi).more (by omega)
  | j + 1, i, hi => by
    have e : (j + 1) * (m * (ku + 1)) = j * (m * (ku + 1)) + m * (ku + 1) := Nat.succ_mul _ _
    simp only [shS]
    split
    · exact (shS_bd hc hu j i hi).more (by omega)
    · refine (hsum_bd (shS_bd hc hu j) hu (m - i) i (by omega)).more ?_
      have := Nat.mul_le_mul_right (ku + 1) (show m - i ≤ m by omega)
      omega
theorem wdC_bd {z : Nat → Int} {n : Nat} {d : Int} {k kd : Nat} (hz : ∀ i, i < tl z n → Bd (z i).natAbs k) (hd : Bd d.natAbs kd) (i : Nat) (hi : i < tl z n) : Bd (wdC z n d i).natAbs (k + (tl z n * kd + 1)) := by
  unfold wdC
  rw [Int.natAbs_mul, Int.natAbs_pow]
  refine (Bd.mul (hz i hi) (Bd.pow1 hd _)).more ?_
  have := Nat.mul_le_mul_right kd (show tl z n - 1 - i ≤ tl z n by omega)
  omega
theorem mvS_bd {z : Nat → Int} {n : Nat} {u d : Int} {k kd ku : Nat} (hz : ∀ i, i < tl z n → Bd (z i).natAbs k) (hd : Bd d.natAbs kd) (hu : Bd u.natAbs ku) (j a : Nat) (ha : a < tl z n) : Bd (mvS z n u d j a).natAbs (k + (tl z n * kd + 1) + j * (tl z n * (ku + 1))) :=
  shS_bd (wdC_bd hz hd) hu j a ha
theorem derive1 {Φ : Nat → World → Value → Prop} {x : Nat} {a : Int} (hx : Φ x = fun _ v => v = .int .i64 a) (X : Nat → Prop) (w : World) (v : Value) (h : (Arg.parts (.one (.lit (.ci .i64 a))) []).ok Φ X w v) : (Arg.fact x).ok Φ X w v := fun w1 _ => by
  rw [hx]
  exact h.1.1
theorem bd_zero (k : Nat) : Bd (0 : Int).natAbs k := Nat.pow_pos (by omega)
theorem mulL_bd {z y : Nat → Int} {n m k k' : Nat} (hz : ∀ i, i < n → Bd (z i).natAbs k) (hy : ∀ i, i < m → Bd (y i).natAbs k') (i : Nat) : Bd (coef (mulL z n y m) i).natAbs (k + k' + n) := by
  unfold mulL
  split
  · rw [coef_out (by simp)]; exact bd_zero _
  · rw [coef_mk]
    split
    · have h1 := tl_le z n
      have h2 := tl_le y m
      exact (cvS_bd (c := n) hz (fun i hi => hy i (by omega)) h1 h1 i).more (by omega)
    · exact bd_zero _
theorem mvL_bd {z : Nat → Int} {n : Nat} {u d : Int} {k : Nat} (hn : n ≤ 6) (hz : ∀ i, i < n → Bd (z i).natAbs k) (hd : Bd d.natAbs 1) (hu : Bd u.natAbs 1) (i : Nat) : Bd (coef (mvL z n u d) i).natAbs (k + 85) := by
  have hl := tl_le z n
  rcases Nat.lt_or_ge i (tl z n) with hi | hi
  · rw [coef_mvL hi, Int.natAbs_mul, Int.natAbs_pow]
    have h1 := mvS_bd (u := u) (fun i hi => hz i (by omega)) hd hu (tl z n) i hi
    have h2 : tl z n * (tl z n * (1 + 1)) ≤ 6 * (6 * (1 + 1)) := Nat.mul_le_mul (by omega) (Nat.mul_le_mul_right _ (by omega))
    exact (Bd.mul h1 (Bd.pow1 hd i)).more (by omega)
  · rw [coef_out (by rw [mvL_length]; exact hi)]; exact bd_zero _
theorem ev_trim (x : Rat) (n : Nat) (z : Nat → Int) : ev x (trimL (mk n z)).length (coef (trimL (mk n z))) = ev x n z := by
  rw [← ev_to (x := x) (m := n) (fun i hi => coef_out hi) (by rw [trimL_mk]; exact tl_le _ _)]
  exact ev_congr fun i hi => by rw [coef_trim, coef_mk, if_pos hi]
theorem q_bd {u d : Int} {k : Nat} (h0 : d ≠ 0) (hu : Bd u.natAbs k) (hd : Bd d.natAbs k) : Bd (Rat.divInt u d).num.natAbs k ∧ Bd (Rat.divInt u d).den k := ⟨hu.le (num_le _ _), hd.le (den_le h0)⟩
theorem add_bd {q r : Rat} {k : Nat} (hq : Bd q.num.natAbs k ∧ Bd q.den k) (hr : Bd r.num.natAbs k ∧ Bd r.den k) : Bd (q + r).num.natAbs (k + k + 1) ∧ Bd (q + r).den (k + k + 1) := by
  have hq0 : ((q.den : Nat) : Int) ≠ 0 := by have := q.den_nz; omega
  have hr0 : ((r.den : Nat) : Int) ≠ 0 := by have := r.den_nz; omega
  have e : q + r = Rat.divInt (q.num * r.den + r.num * q.den) (q.den * r.den) := by
    conv => lhs; rw [← Rat.num_divInt_den q, ← Rat.num_divInt_den r]
    exact Rat.divInt_add_divInt _ _ hq0 hr0
  rw [e]
  refine q_bd (Int.mul_ne_zero hq0 hr0) ?_ ?_
  · refine (Bd.add1 (Bd.mul hq.1 hr.2) (Bd.mul hr.1 hq.2)).le ?_
    have := Int.natAbs_add_le (q.num * r.den) (r.num * q.den)
    rw [Int.natAbs_mul, Int.natAbs_mul, Int.natAbs_natCast, Int.natAbs_natCast] at this
    exact this
  · rw [Int.natAbs_mul, Int.natAbs_natCast, Int.natAbs_natCast]
    exact (Bd.mul hq.2 hr.2).more (by omega)
/-- What the laws ask of sizes on the way to a value. -/
theorem at_bd {z : Nat → Int} {n k kt kn c : Nat} {q : Rat} (hz : ∀ i, i < n → Bd (z i).natAbs k) (hq : Bd q.num.natAbs kt ∧ Bd q.den kt) (hc : tl z n ≤ c) (hk : k + c * (kt + 1) + 1 ≤ kn) (j : Nat) (hj : j ≤ tl z n - 1) : Bd (hN z (tl z n) q.num q.den j).natAbs kn ∧ Bd (((q.den : Nat) : Int) ^ j).natAbs kn := by
  have hl := tl_le z n
  have h1 := Nat.mul_le_mul_right (kt + 1) (show j ≤ c by omega)
  have h2 : j * (kt + 1) = j * kt + j := by rw [Nat.mul_add, Nat.mul_one]
  constructor
  · rcases Nat.eq_zero_or_pos (tl z n) with h0 | h0
    · obtain rfl : j = 0 := by omega
      simp only [hN]; rw [if_pos h0]; exact bd_zero _
    · exact (hN_bd h0 (fun i hi => hz i (by omega)) hq.1 (by rw [Int.natAbs_natCast]; exact hq.2) j).more (by omega)
  · rw [Int.natAbs_pow, Int.natAbs_natCast]
    exact (Bd.pow1 hq.2 j).more (by omega)
end Go.Proofs.YtncaiomdcpppeaaGreat.Sym
