/- PdivEuclid holds: for every three polynomials the law returns true and leaves them as they were. No condition. -/
import Derived.Test.YtigkehblnlghkaaGreatDivW
import Derived.Test.YtigkehblnlghkaaGreatPolQ
namespace Go.Proofs.YtigkehblnlghkaaGreat.veuclid
open Go.ChangeShapes Go.WideShapes Go.ChangeAt Go.RowKit
open Go.Proofs.YtigkehblnlghkaaGreat.Sym hiding val run start

/-- What reduce leaves; what Rest answers. -/
def rsL (Z P : List Int) (nb : Nat) (c : Int) : List Int := trimL (mk (min nb Z.length) (rdA (coef Z) (coef P) nb (Z.length - nb) c (Z.length - nb)))
def rstL (Z P : List Int) (nb : Nat) (c : Int) : List Int := dvL (coef (rsL Z P nb c)) (rsL Z P nb c).length (gcdZ (coef (rsL Z P nb c)) (rsL Z P nb c).length : Int)
section
variable {Φ : Nat → World → Value → Prop} {p q x n0 n1 k k1 nb kz kp K : Nat} {z0 z1 : Nat → Int} {c : Int} {Z P R : List Int}
theorem sRest (hp : ∀ w v, Φ p w v → Rw 2 (fun i w v => IntV w v (z0 i) k) n0 w v) (hq : ∀ w v, Φ q w v → Rw 2 (fun i w v => IntV w v (z1 i) k1) n1 w v) (hx : Φ x = fun w v => Rw 2 (fun i w v => NorV w v (coef R i) K) R.length w v)
    (hn0 : n0 ≤ 1000000) (hn1 : n1 ≤ 900000) (hk : k ≤ 90000) (hk1 : k1 ≤ 90000) (hkK : k ≤ K) (hP : dvL z1 n1 (pcon z1 n1) = P) (hPl : P.length = nb + 1) (hnb : nb ≤ 800000) (hZ : trimL (mk n0 z0) = Z) (hZl : Z.length ≤ 100) (hc : ldZ (coef P) (nb + 1) = c) (hbZ : ∀ i, Bd (coef Z i).natAbs kz) (hbP : ∀ i, Bd (coef P i).natAbs kp) (hbc : Bd c.natAbs kp) (hK : kz + 1 + (Z.length - nb) * (kp + 1) ≤ K) (hK2 : K ≤ 90000 ∧ kp ≤ 900) (hR : rstL Z P nb c = R) :
    SiteOk Φ Tryz.prog ⟨43, [.fact p, .fact q], [⟨.one .s, [(0, 0, x)]⟩, ⟨.one (.lit (.ci .i64 0)), []⟩], true⟩ := by
  have hb := red_bd (n := nb) (m := Z.length - nb) (K := K) hbZ hbP hbc hK
  have hl : (rsL Z P nb c).length ≤ 100 := by
    rw [rsL, trimL_mk]
    exact Nat.le_trans (tl_le _ _) (by omega)
  have hkp : ∀ j, j ≤ Z.length - nb → Bd (c ^ j).natAbs 90001 := fun j hj => by
    rw [Int.natAbs_pow]
    refine (Bd.powD hbc j).more ?_
    have : j * kp ≤ 100 * 900 := Nat.mul_le_mul (by omega) (by omega)
    omega
  exact viaG (prest hn0 hn1 hk hk1 hkK hP hPl hnb hZ (by omega) rfl (by omega) (by omega) hc hkp hb.1 hb.2 rfl (by show (rsL Z P nb c).length ≤ _; omega) hR) ⟨hp, hq, trivial⟩ ⟨⟨rfl, ⟨rfl, rfl, fun _ _ h => hx ▸ h⟩, trivial⟩, ⟨rfl, trivial⟩, trivial⟩
end
theorem tl_none {f : Nat → Int} : ∀ {n : Nat}, (∀ i, i < n → f i = 0) → tl f n = 0
  | 0, _ => rfl
  | n + 1, h => by
    unfold tl
    rw [if_pos (h n (by omega)), tl_none fun i hi => h i (by omega)]
theorem coef_tm (n : Nat) (f : Nat → Int) (i : Nat) : coef (trimL (mk n f)) i = upto n f i := by
  rw [coef_trim, coef_mk]; rfl
section
variable {d p r : Nat → Int} {n : Nat}
theorem conv_top {N : Nat} (hd : ∀ i, N + 1 ≤ i → d i = 0) (hp : ∀ i, n < i → p i = 0) : conv d p (N + n) = d N * p n := by
  have e : conv d p (N + n) = conv (upto N d) p (N + n) + conv (fun x => if x = N then d N else 0) p (N + n) := by
    rw [← conv_addL]
    refine conv_congr (fun x _ => ?_) (fun _ _ => rfl)
    unfold upto
    by_cases h1 : x = N
    · subst h1; rw [if_neg (by omega), if_pos rfl]; omega
    · by_cases h2 : x < N
      · rw [if_pos h2, if_neg h1]; omega
      · rw [if_neg h2, if_neg h1, hd x (by omega)]; rfl
  rw [e, conv_one, if_pos (by omega), show N + n - N = n by omega, conv_out (a := N) (b := n + 1) (fun i hi => upto_out hi) (fun i hi => hp i (by omega)) (by omega)]; omega
/-- A multiple of p that is of a lower degree is 0. -/
theorem conv_low (hpn : p n ≠ 0) (hp : ∀ i, n < i → p i = 0) (hr : ∀ i, n ≤ i → r i = 0) (h : ∀ i, conv d p i = r i) : ∀ {N : Nat}, (∀ i, N ≤ i → d i = 0) → ∀ i, r i = 0
  | 0, hd, i => by rw [← h i]; exact conv_zeroL (fun i => hd i (by omega)) i
  | N + 1, hd, i => by
    have h1 := conv_top hd hp
    rw [h, hr _ (by omega)] at h1
    have h2 : d N = 0 := by
      rcases Int.mul_eq_zero.1 h1.symm with h2 | h2
      · exact h2
      · exact absurd h2 hpn
    exact conv_low hpn hp hr h (N := N) (fun i hi => by
      rcases Nat.lt_or_ge N i with h3 | h3
      · exact hd i h3
      · rw [show i = N by omega]; exact h2) i
end
/-- What is left, and the quotient. -/
theorem rs_div {Z P : List Int} {nb : Nat} {c : Int} (hPt : coef P nb = c) (hP0 : ∀ i, nb < i → coef P i = 0) : ∃ q : Nat → Int, (∀ i, Z.length ≤ i → q i = 0) ∧ ∀ p, coef Z p * c ^ (Z.length - nb) = conv q (coef P) p + coef (rsL Z P nb c) p := by
  refine ⟨fun p => if p < Z.length - nb then rdT (coef Z) (coef P) nb (Z.length - nb) c p * c ^ p else 0, fun i hi => if_neg (by omega), fun p => ?_⟩
  · rw [rd_all (z := coef Z) (y := coef P) (n := nb) (m := Z.length - nb) hPt hP0 (fun i hi => coef_out (by omega)) p]
    congr 1
    rw [rsL, coef_tm]
    unfold upto
    by_cases h1 : p < min nb Z.length
    · rw [if_pos (by omega), if_pos h1]
    · rw [if_neg h1]
      split
      · rw [show Z.length - nb = 0 by omega]
        exact coef_out (by omega)
      · rfl
theorem rs_low {Z P : List Int} {nb : Nat} {c : Int} (i : Nat) (hi : nb ≤ i) : coef (rsL Z P nb c) i = 0 := by
  rw [rsL, coef_tm]
  exact upto_out (by omega)
theorem gcdZ_mul (z : Nat → Int) (a : Int) : ∀ n, gcdZ (fun i => z i * a) n = gcdZ z n * a.natAbs
  | 0 => (Nat.zero_mul _).symm
  | n + 1 => by rw [gcdZ, gcdZ, gcdZ_mul z a n, Int.natAbs_mul, Nat.gcd_mul_right]
theorem tl_trim (L : List Int) : tl (coef (trimL L)) (trimL L).length = (trimL L).length := by
  have h := trimL_of (trimL_nrm L)
  have h2 := congrArg List.length h
  rw [trimL_length] at h2
  exact h2
/-- Two polynomials of which multiples by numbers above 0 are one have one shape. -/
theorem shape_eq {A B : List Int} {a b : Int} (hA : tl (coef A) A.length = A.length) (hB : tl (coef B) B.length = B.length) (ha : 0 < a) (hb : 0 < b) (h : ∀ i, coef A i * a = coef B i * b) : dvL (coef A) A.length (gcdZ (coef A) A.length : Int) = dvL (coef B) B.length (gcdZ (coef B) B.length : Int) := by
  have hz : ∀ i, coef A i = 0 ↔ coef B i = 0 := fun i => by
    have := h i
    constructor
    · intro e
      rw [e, Int.zero_mul] at this
      rcases Int.mul_eq_zero.1 this.symm with h1 | h1
      · exact h1
      · omega
    · intro e
      rw [e, Int.zero_mul] at this
      rcases Int.mul_eq_zero.1 this with h1 | h1
      · exact h1
      · omega
  have hl : A.length = B.length := by
    have h1 : ∀ {X Y : List Int}, tl (coef X) X.length = X.length → (∀ i, coef X i = 0 ↔ coef Y i = 0) → X.length ≤ Y.length := fun {X Y} hX hXY => by
      rcases Nat.lt_or_ge Y.length X.length with h2 | h2
      · have h3 := tl_last (coef X) X.length (by omega)
        rw [hX] at h3
        exact absurd ((hXY _).2 (coef_out (by omega))) h3
      · exact h2
    exact Nat.le_antisymm (h1 hA hz) (h1 hB fun i => (hz i).symm)
  rw [dvL, dvL, hA, hB, hl]
  have hg : (gcdZ (coef A) A.length : Int) * a = (gcdZ (coef B) B.length : Int) * b := by
    have h1 := gcdZ_mul (coef A) a A.length
    have h2 := gcdZ_mul (coef B) b B.length
    rw [gcdZ_congr (g := fun i => coef B i * b) fun i _ => h i, hl, h2] at h1
    have h3 := congrArg (fun n : Nat => (n : Int)) h1
    simp only [Int.natCast_mul] at h3
    rw [Int.natAbs_of_nonneg (by omega), Int.natAbs_of_nonneg (by omega)] at h3
    rw [hl]
    exact h3.symm
  rw [hl] at hg
  have key : ∀ i, coef A i / (gcdZ (coef A) B.length : Int) = coef B i / (gcdZ (coef B) B.length : Int) := fun i => by
    have h1 : coef A i / (gcdZ (coef A) B.length : Int) = (coef A i * a) / ((gcdZ (coef A) B.length : Int) * a) := (Int.mul_ediv_mul_of_pos_left _ _ ha).symm
    have h2 : coef B i / (gcdZ (coef B) B.length : Int) = (coef B i * b) / ((gcdZ (coef B) B.length : Int) * b) := (Int.mul_ediv_mul_of_pos_left _ _ hb).symm
    rw [h1, h2, h i, hg]
  exact congrArg (mk B.length) (funext key)
theorem coef_bd {L : List Int} {k n : Nat} {f : Nat → Int} (hL : trimL (mk n f) = L) (h : ∀ i, i < n → Bd (f i).natAbs k) (i : Nat) : Bd (coef L i).natAbs k := by
  rw [← hL, coef_tm]
  unfold upto
  split
  · exact h i (by assumption)
  · exact bd_zeroD k
theorem trim_self (L : List Int) (h : Nrm L) : trimL (mk L.length (coef L)) = L := by
  have : mk L.length (coef L) = L := by
    apply List.ext_getElem (by rw [mk_length])
    intro i h1 h2
    simp [mk, coef, List.getD_eq_getElem?_getD, List.getElem?_eq_getElem h2]
  rw [this]
  exact trimL_of h
def b_path_0 (aa ab ac : Nat → Bool) (xsa xsb xsc : Nat → List Nat) (eza ezb ezc : Nat → Int) (ma mb mc Na Nb Nc : Nat) : List (World → Value → Prop) := [fun w v => Rw 2 (fun ι w v => RawI w v (aa ι) (xsa ι)) ma w v, fun w v => Rw 2 (fun ι w v => RawI w v (ab ι) (xsb ι)) mb w v, fun w v => Rw 2 (fun ι w v => RawI w v (ac ι) (xsc ι)) mc w v, fun w v => Rw 2 (fun ι w v => KI w v (aa ι) ((fun ι => (xsa ι).take 2) ι) (eza ι) 2) Na w v, fun w v => Rw 4 (fun ι w v => DecQ w v ((((coef (trimL (mk Na eza))) ι : Int) : Rat)) (2 + 2 + 2)) ((trimL (mk Na eza)).length) w v, fun w v => Rw 2 (fun ι w v => KI w v (ab ι) ((fun ι => (xsb ι).take 2) ι) (ezb ι) 2) Nb w v, fun w v => Rw 4 (fun ι w v => DecQ w v ((((coef (trimL (mk Nb ezb))) ι : Int) : Rat)) (2 + 2 + 2)) ((trimL (mk Nb ezb)).length) w v, fun w v => Rw 2 (fun ι w v => KI w v (ac ι) ((fun ι => (xsc ι).take 1) ι) (ezc ι) 1) Nc w v, fun w v => Rw 4 (fun ι w v => DecQ w v ((((coef (trimL (mk Nc ezc))) ι : Int) : Rat)) (1 + 2 + 2)) ((trimL (mk Nc ezc)).length) w v, fun _ v => v = .int .i64 (((trimL (mk Nb ezb)).length : Nat) : Int)]
def ss_path_0 : List Step := [.base ⟨11, [.fact 0, .lit (.ci .i64 6), .lit (.ci .i64 2)], [⟨.one (.s), [(0, 0, 3)]⟩, ⟨.one (.s), [(0, 0, 4)]⟩], true⟩,
      .base ⟨11, [.fact 1, .lit (.ci .i64 4), .lit (.ci .i64 2)], [⟨.one (.s), [(0, 0, 5)]⟩, ⟨.one (.s), [(0, 0, 6)]⟩], true⟩,
      .base ⟨11, [.fact 2, .lit (.ci .i64 3), .lit (.ci .i64 1)], [⟨.one (.s), [(0, 0, 7)]⟩, ⟨.one (.s), [(0, 0, 8)]⟩], true⟩,
      .base ⟨0, [.fact 6], [⟨.one (.i), [(0, 0, 9)]⟩], .quiet (mLen 30)⟩,
      .base ⟨0, [.fact 9, .lit (.ci .i64 0)], [⟨.one (.lit (.cb true)), []⟩], .quiet (mBin .eql)⟩,
      .base ⟨37, [], [⟨.one (.lit (.cb true)), []⟩], false⟩]
def ins_path_0 : List Out := [⟨.one (.s), [(0, 0, 0)]⟩, ⟨.one (.s), [(0, 0, 1)]⟩, ⟨.one (.s), [(0, 0, 2)]⟩]
set_option maxHeartbeats 1000000 in
set_option maxRecDepth 100000 in
theorem path_0 {aa ab ac : Nat → Bool} {xsa xsb xsc : Nat → List Nat} {eza ezb ezc : Nat → Int} {ma mb mc Na Nb Nc : Nat} (hna : ma ≤ 9223372036854775807) (hza : ∀ j, sg (aa j) (Proofs.YtigkehblnlghkaaGreat.val 4294967296 ((xsa j).take 2)) = eza j) (hNna : min ma 6 = Na) (hnb : mb ≤ 9223372036854775807) (hzb : ∀ j, sg (ab j) (Proofs.YtigkehblnlghkaaGreat.val 4294967296 ((xsb j).take 2)) = ezb j) (hNnb : min mb 4 = Nb) (hnc : mc ≤ 9223372036854775807) (hzc : ∀ j, sg (ac j) (Proofs.YtigkehblnlghkaaGreat.val 4294967296 ((xsc j).take 1)) = ezc j) (hNnc : min mc 3 = Nc) (h0 : (trimL (mk Nb ezb)).length = 0) : SiteOk (ph (b_path_0 aa ab ac xsa xsb xsc eza ezb ezc ma mb mc Na Nb Nc)) Tryz.prog ⟨10, [.fact 0, .fact 1, .fact 2], [⟨.one (.lit (.cb true)), []⟩], false⟩ := by
  skip
  exact fn_okL ins_path_0 [⟨.one (.lit (.cb true)), []⟩] ss_path_0 Tryz.func10 (by kernel_rfl)
    (lbase (sCut5 6 2 rfl rfl (fun _ _ h => h) rfl rfl (by omega) (by omega) (by omega) hza hNna)
      (lbase (sCut5 4 2 rfl rfl (fun _ _ h => h) rfl rfl (by omega) (by omega) (by omega) hzb hNnb)
      (lbase (sCut5 3 1 rfl rfl (fun _ _ h => h) rfl rfl (by omega) (by omega) (by omega) hzc hNnc)
      (lbase (qLen (sz := 4) (n := (trimL (mk Nb ezb)).length) (F := (fun ι w v => DecQ w v ((((coef (trimL (mk Nb ezb))) ι : Int) : Rat)) (2 + 2 + 2))) Tryz.underlying30 (fun _ _ h => Rw.arr h) rfl)
      (lbase (qTestC (op := .eql) (fun _ _ h => h) (ts_run (decide_eq_true (by omega)) (by simp)))
      (lbase (sWakes6)
      lnil))))))
    (ins_ok [.fact 0 (.one (.s)), .fact 1 (.one (.s)), .fact 2 (.one (.s))] ⟨fun _ _ h => Rw.is (sz := 2) (F := (fun ι w v => RawI w v (aa ι) (xsa ι))) (n := ma) h, fun _ _ h => Rw.is (sz := 2) (F := (fun ι w v => RawI w v (ab ι) (xsb ι))) (n := mb) h, fun _ _ h => Rw.is (sz := 2) (F := (fun ι w v => RawI w v (ac ι) (xsc ι))) (n := mc) h, trivial⟩) (fun _ _ _ h => h)

def b_path_1 (aa ab ac : Nat → Bool) (xsa xsb xsc : Nat → List Nat) (eza ezb ezc : Nat → Int) (ma mb mc Na Nb Nc : Nat) (BC AL R : List Int) : List (World → Value → Prop) := [fun w v => Rw 2 (fun ι w v => RawI w v (aa ι) (xsa ι)) ma w v, fun w v => Rw 2 (fun ι w v => RawI w v (ab ι) (xsb ι)) mb w v, fun w v => Rw 2 (fun ι w v => RawI w v (ac ι) (xsc ι)) mc w v, fun w v => Rw 2 (fun ι w v => KI w v (aa ι) ((fun ι => (xsa ι).take 2) ι) (eza ι) 2) Na w v, fun w v => Rw 4 (fun ι w v => DecQ w v ((((coef (trimL (mk Na eza))) ι : Int) : Rat)) (2 + 2 + 2)) ((trimL (mk Na eza)).length) w v, fun w v => Rw 2 (fun ι w v => KI w v (ab ι) ((fun ι => (xsb ι).take 2) ι) (ezb ι) 2) Nb w v, fun w v => Rw 4 (fun ι w v => DecQ w v ((((coef (trimL (mk Nb ezb))) ι : Int) : Rat)) (2 + 2 + 2)) ((trimL (mk Nb ezb)).length) w v, fun w v => Rw 2 (fun ι w v => KI w v (ac ι) ((fun ι => (xsc ι).take 1) ι) (ezc ι) 1) Nc w v, fun w v => Rw 4 (fun ι w v => DecQ w v ((((coef (trimL (mk Nc ezc))) ι : Int) : Rat)) (1 + 2 + 2)) ((trimL (mk Nc ezc)).length) w v, fun _ v => v = .int .i64 (((trimL (mk Nb ezb)).length : Nat) : Int), fun w v => Rw 2 (fun ι w v => NorV w v ((coef R) ι) 60) R.length w v, fun w v => Rw 2 (fun ι w v => NorV w v ((coef BC) ι) (2 + 1 + 7 + 1)) BC.length w v, fun w v => Rw 2 (fun ι w v => NorV w v ((coef AL) ι) (2 + (2 + 1 + 7 + 1) + 1)) AL.length w v, fun w v => Rw 2 (fun ι w v => NorV w v ((coef R) ι) 60) R.length w v, fun w v => Rw 2 (fun ι w v => NorV w v ((coef BC) ι) (2 + 1 + 7 + 1)) BC.length w v, fun w v => Rw 2 (fun ι w v => NorV w v ((coef ([])) ι) 60) 0 w v, fun _ v => v = .int .i64 ((0 : Nat) : Int), fun _ v => v = .int .i64 ((R.length : Nat) : Int), fun _ v => v = .int .i64 (((trimL (mk Nb ezb)).length : Nat) : Int)]
def ss_path_1 : List Step := [.base ⟨11, [.fact 0, .lit (.ci .i64 6), .lit (.ci .i64 2)], [⟨.one (.s), [(0, 0, 3)]⟩, ⟨.one (.s), [(0, 0, 4)]⟩], true⟩,
      .base ⟨11, [.fact 1, .lit (.ci .i64 4), .lit (.ci .i64 2)], [⟨.one (.s), [(0, 0, 5)]⟩, ⟨.one (.s), [(0, 0, 6)]⟩], true⟩,
      .base ⟨11, [.fact 2, .lit (.ci .i64 3), .lit (.ci .i64 1)], [⟨.one (.s), [(0, 0, 7)]⟩, ⟨.one (.s), [(0, 0, 8)]⟩], true⟩,
      .base ⟨0, [.fact 6], [⟨.one (.i), [(0, 0, 9)]⟩], .quiet (mLen 30)⟩,
      .base ⟨0, [.fact 9, .lit (.ci .i64 0)], [⟨.one (.lit (.cb false)), []⟩], .quiet (mBin .eql)⟩,
      .base ⟨43, [.fact 3, .fact 5], [⟨.one (.s), [(0, 0, 10)]⟩, ⟨.one (.lit (.ci .i64 0)), []⟩], true⟩,
      .base ⟨13, [.fact 5, .fact 7], [⟨.one (.s), [(0, 0, 11)]⟩], false⟩,
      .base ⟨17, [.fact 3, .fact 11], [⟨.one (.s), [(0, 0, 12)]⟩], false⟩,
      .base ⟨43, [.fact 12, .fact 5], [⟨.one (.s), [(0, 0, 13)]⟩, ⟨.one (.lit (.ci .i64 0)), []⟩], true⟩,
      .base ⟨13, [.fact 5, .fact 7], [⟨.one (.s), [(0, 0, 14)]⟩], false⟩,
      .base ⟨43, [.fact 14, .fact 5], [⟨.one (.s), [(0, 0, 15)]⟩, ⟨.one (.lit (.ci .i64 0)), []⟩], true⟩,
      .base ⟨15, [.fact 10, .fact 13], [⟨.one (.lit (.cb true)), []⟩], false⟩,
      .base ⟨0, [.fact 15], [⟨.one (.i), [(0, 0, 16)]⟩], .quiet (mLen 23)⟩,
      .base ⟨0, [.fact 16, .lit (.ci .i64 0)], [⟨.one (.lit (.cb true)), []⟩], .quiet (mBin .eql)⟩,
      .base ⟨0, [.fact 10], [⟨.one (.i), [(0, 0, 17)]⟩], .quiet (mLen 23)⟩,
      .base ⟨0, [.fact 6], [⟨.one (.i), [(0, 0, 18)]⟩], .quiet (mLen 30)⟩,
      .base ⟨0, [.fact 17, .fact 18], [⟨.one (.lit (.cb true)), []⟩], .quiet (mBin .lss)⟩,
      .base ⟨37, [], [⟨.one (.lit (.cb true)), []⟩], false⟩]
def ins_path_1 : List Out := [⟨.one (.s), [(0, 0, 0)]⟩, ⟨.one (.s), [(0, 0, 1)]⟩, ⟨.one (.s), [(0, 0, 2)]⟩]
set_option maxHeartbeats 1000000 in
set_option maxRecDepth 100000 in
theorem path_1 {aa ab ac : Nat → Bool} {xsa xsb xsc : Nat → List Nat} {eza ezb ezc : Nat → Int} {ma mb mc Na Nb Nc nb : Nat} {c : Int} {P Z1 Z2 Z3 BC AL R : List Int} (hna : ma ≤ 9223372036854775807) (hza : ∀ j, sg (aa j) (Proofs.YtigkehblnlghkaaGreat.val 4294967296 ((xsa j).take 2)) = eza j) (hNna : min ma 6 = Na) (hnb : mb ≤ 9223372036854775807) (hzb : ∀ j, sg (ab j) (Proofs.YtigkehblnlghkaaGreat.val 4294967296 ((xsb j).take 2)) = ezb j) (hNnb : min mb 4 = Nb) (hnc : mc ≤ 9223372036854775807) (hzc : ∀ j, sg (ac j) (Proofs.YtigkehblnlghkaaGreat.val 4294967296 ((xsc j).take 1)) = ezc j) (hNnc : min mc 3 = Nc) (h0 : (trimL (mk Nb ezb)).length = nb + 1) (hnb : nb ≤ 3) (hP : dvL ezb Nb (pcon ezb Nb) = P) (hPl : P.length = nb + 1) (hc : ldZ (coef P) (nb + 1) = c) (hbP : ∀ i, Bd (coef P i).natAbs 2) (hbc : Bd c.natAbs 2)
    (hBC : mulL ezb Nb ezc Nc = BC) (hAL : trimL (mk (max Na BC.length) (fun i => upto Na eza i + upto BC.length (coef BC) i)) = AL) (hBCl : BC.length ≤ 7) (hALl : AL.length ≤ 7)
    (hZ1 : trimL (mk Na eza) = Z1) (hZ2 : trimL (mk AL.length (coef AL)) = Z2) (hZ3 : trimL (mk BC.length (coef BC)) = Z3) (hl1 : Z1.length ≤ 7) (hl2 : Z2.length ≤ 7) (hl3 : Z3.length ≤ 7)
    (hb1 : ∀ i, Bd (coef Z1 i).natAbs 20) (hb2 : ∀ i, Bd (coef Z2 i).natAbs 20) (hb3 : ∀ i, Bd (coef Z3 i).natAbs 20) (hR1 : rstL Z1 P nb c = R) (hR2 : rstL Z2 P nb c = R) (hR3 : rstL Z3 P nb c = []) (hRl : R.length ≤ nb) (hE : ∀ i, upto R.length (coef R) i = upto R.length (coef R) i) : SiteOk (ph (b_path_1 aa ab ac xsa xsb xsc eza ezb ezc ma mb mc Na Nb Nc BC AL R)) Tryz.prog ⟨10, [.fact 0, .fact 1, .fact 2], [⟨.one (.lit (.cb true)), []⟩], false⟩ := by
  skip
  exact fn_okL ins_path_1 [⟨.one (.lit (.cb true)), []⟩] ss_path_1 Tryz.func10 (by kernel_rfl)
    (lbase (sCut5 6 2 rfl rfl (fun _ _ h => h) rfl rfl (by omega) (by omega) (by omega) hza hNna)
      (lbase (sCut5 4 2 rfl rfl (fun _ _ h => h) rfl rfl (by omega) (by omega) (by omega) hzb hNnb)
      (lbase (sCut5 3 1 rfl rfl (fun _ _ h => h) rfl rfl (by omega) (by omega) (by omega) hzc hNnc)
      (lbase (qLen (sz := 4) (n := (trimL (mk Nb ezb)).length) (F := (fun ι w v => DecQ w v ((((coef (trimL (mk Nb ezb))) ι : Int) : Rat)) (2 + 2 + 2))) Tryz.underlying30 (fun _ _ h => Rw.arr h) rfl)
      (lbase (qTestC (op := .eql) (fun _ _ h => h) (ts_run (decide_eq_false (by omega)) (by simp)))
      (lbase (sRest (z0 := eza) (k := 2) (n0 := Na) (z1 := ezb) (k1 := 2) (n1 := Nb) (Z := Z1) (R := R) (K := 60) (fun _ _ h => Rw.to (sz := 2) (n := Na) (F := (fun ι w v => KI w v (aa ι) ((fun ι => (xsa ι).take 2) ι) (eza ι) 2)) (h) (fun i w v _ h => (fun _ _ _ h => And.right h) i w v h)) (fun _ _ h => Rw.to (sz := 2) (n := Nb) (F := (fun ι w v => KI w v (ab ι) ((fun ι => (xsb ι).take 2) ι) (ezb ι) 2)) (h) (fun i w v _ h => (fun _ _ _ h => And.right h) i w v h)) rfl (by omega) (by omega) (by omega) (by omega) (by omega) hP hPl (by omega) hZ1 (by omega) hc hb1 hbP hbc (by have := Nat.mul_le_mul_right (2 + 1) (show Z1.length - nb ≤ 7 by omega); omega) (by omega) hR1)
      (lbase (sPMul (c := 7) (z := ezb) (n := Nb) (y := ezc) (m := Nc) (fun _ _ h => Rw.to (sz := 2) (n := Nb) (F := (fun ι w v => KI w v (ab ι) ((fun ι => (xsb ι).take 2) ι) (ezb ι) 2)) (h) (fun i w v _ h => (fun _ _ _ h => And.right h) i w v h)) (fun _ _ h => Rw.to (sz := 2) (n := Nc) (F := (fun ι w v => KI w v (ac ι) ((fun ι => (xsc ι).take 1) ι) (ezc ι) 1)) (h) (fun i w v _ h => (fun _ _ _ h => And.right h) i w v h)) rfl (by omega) (by omega) (by omega) (by omega) (by omega) hBC)
      (lbase (sAddP (z := eza) (n := Na) (y := (coef BC)) (m := BC.length) (fun _ _ h => Rw.to (sz := 2) (n := Na) (F := (fun ι w v => KI w v (aa ι) ((fun ι => (xsa ι).take 2) ι) (eza ι) 2)) (h) (fun i w v _ h => (fun _ _ _ h => And.right h) i w v h)) (fun _ _ h => Rw.to (sz := 2) (n := BC.length) (F := (fun ι w v => NorV w v ((coef BC) ι) (2 + 1 + 7 + 1))) (h) (fun i w v _ h => (fun _ _ _ h => NorV.i h) i w v h)) rfl (by omega) (by omega) (by omega) (by omega) hAL)
      (lbase (sRest (z0 := (coef AL)) (k := (2 + (2 + 1 + 7 + 1) + 1)) (n0 := AL.length) (z1 := ezb) (k1 := 2) (n1 := Nb) (Z := Z2) (R := R) (K := 60) (fun _ _ h => Rw.to (sz := 2) (n := AL.length) (F := (fun ι w v => NorV w v ((coef AL) ι) (2 + (2 + 1 + 7 + 1) + 1))) (h) (fun i w v _ h => (fun _ _ _ h => NorV.i h) i w v h)) (fun _ _ h => Rw.to (sz := 2) (n := Nb) (F := (fun ι w v => KI w v (ab ι) ((fun ι => (xsb ι).take 2) ι) (ezb ι) 2)) (h) (fun i w v _ h => (fun _ _ _ h => And.right h) i w v h)) rfl (by omega) (by omega) (by omega) (by omega) (by omega) hP hPl (by omega) hZ2 (by omega) hc hb2 hbP hbc (by have := Nat.mul_le_mul_right (2 + 1) (show Z2.length - nb ≤ 7 by omega); omega) (by omega) hR2)
      (lbase (sPMul (c := 7) (z := ezb) (n := Nb) (y := ezc) (m := Nc) (fun _ _ h => Rw.to (sz := 2) (n := Nb) (F := (fun ι w v => KI w v (ab ι) ((fun ι => (xsb ι).take 2) ι) (ezb ι) 2)) (h) (fun i w v _ h => (fun _ _ _ h => And.right h) i w v h)) (fun _ _ h => Rw.to (sz := 2) (n := Nc) (F := (fun ι w v => KI w v (ac ι) ((fun ι => (xsc ι).take 1) ι) (ezc ι) 1)) (h) (fun i w v _ h => (fun _ _ _ h => And.right h) i w v h)) rfl (by omega) (by omega) (by omega) (by omega) (by omega) hBC)
      (lbase (sRest (z0 := (coef BC)) (k := (2 + 1 + 7 + 1)) (n0 := BC.length) (z1 := ezb) (k1 := 2) (n1 := Nb) (Z := Z3) (R := []) (K := 60) (fun _ _ h => Rw.to (sz := 2) (n := BC.length) (F := (fun ι w v => NorV w v ((coef BC) ι) (2 + 1 + 7 + 1))) (h) (fun i w v _ h => (fun _ _ _ h => NorV.i h) i w v h)) (fun _ _ h => Rw.to (sz := 2) (n := Nb) (F := (fun ι w v => KI w v (ab ι) ((fun ι => (xsb ι).take 2) ι) (ezb ι) 2)) (h) (fun i w v _ h => (fun _ _ _ h => And.right h) i w v h)) rfl (by omega) (by omega) (by omega) (by omega) (by omega) hP hPl (by omega) hZ3 (by omega) hc hb3 hbP hbc (by have := Nat.mul_le_mul_right (2 + 1) (show Z3.length - nb ≤ 7 by omega); omega) (by omega) hR3)
      (lbase (sSameT (z := (coef R)) (n := R.length) (y := (coef R)) (m := R.length) (fun _ _ h => Rw.to (sz := 2) (n := R.length) (F := (fun ι w v => NorV w v ((coef R) ι) 60)) (h) (fun i w v _ h => (fun _ _ _ h => NorV.i h) i w v h)) (fun _ _ h => Rw.to (sz := 2) (n := R.length) (F := (fun ι w v => NorV w v ((coef R) ι) 60)) (h) (fun i w v _ h => (fun _ _ _ h => NorV.i h) i w v h)) (by omega) (by omega) (by omega) (by omega) hE)
      (lbase (qLen (sz := 2) (n := 0) (F := (fun ι w v => NorV w v ((coef ([])) ι) 60)) Tryz.underlying23 (fun _ _ h => Rw.arr h) rfl)
      (lbase (qTestC (op := .eql) (fun _ _ h => h) (ts_run (show decide (((0 : Nat) : Int) = 0) = true from rfl) (by simp)))
      (lbase (qLen (sz := 2) (n := R.length) (F := (fun ι w v => NorV w v ((coef R) ι) 60)) Tryz.underlying23 (fun _ _ h => Rw.arr h) rfl)
      (lbase (qLen (sz := 4) (n := (trimL (mk Nb ezb)).length) (F := (fun ι w v => DecQ w v ((((coef (trimL (mk Nb ezb))) ι : Int) : Rat)) (2 + 2 + 2))) Tryz.underlying30 (fun _ _ h => Rw.arr h) rfl)
      (lbase (qTest (op := .lss) (fun _ _ h => h) (fun _ _ h => h) (ts_run (decide_eq_true (by omega)) (by simp)))
      (lbase (sWakes6)
      lnil))))))))))))))))))
    (ins_ok [.fact 0 (.one (.s)), .fact 1 (.one (.s)), .fact 2 (.one (.s))] ⟨fun _ _ h => Rw.is (sz := 2) (F := (fun ι w v => RawI w v (aa ι) (xsa ι))) (n := ma) h, fun _ _ h => Rw.is (sz := 2) (F := (fun ι w v => RawI w v (ab ι) (xsb ι))) (n := mb) h, fun _ _ h => Rw.is (sz := 2) (F := (fun ι w v => RawI w v (ac ι) (xsc ι))) (n := mc) h, trivial⟩) (fun _ _ _ h => h)

theorem walk {ma mb mc : Nat} {aa ab ac : Nat → Bool} {xsa xsb xsc : Nat → List Nat} {w : World} {va vb vc : Value} (hna : ma ≤ 9223372036854775807) (hla : Rw 2 (fun i w v => RawI w v (aa i) (xsa i)) ma w va) (hnb : mb ≤ 9223372036854775807) (hlb : Rw 2 (fun i w v => RawI w v (ab i) (xsb i)) mb w vb) (hnc : mc ≤ 9223372036854775807) (hlc : Rw 2 (fun i w v => RawI w v (ac i) (xsc i)) mc w vc) : Calls Tryz.prog 10 #[va, vb, vc] w (Bool_ w true) := by
  obtain ⟨eza, hza⟩ : ∃ ez : Nat → Int, ∀ j, sg (aa j) (Proofs.YtigkehblnlghkaaGreat.val 4294967296 ((xsa j).take 2)) = ez j := ⟨_, fun _ => rfl⟩
  obtain ⟨Na, hNna⟩ : ∃ N, min ma 6 = N := ⟨_, rfl⟩
  obtain ⟨ezb, hzb⟩ : ∃ ez : Nat → Int, ∀ j, sg (ab j) (Proofs.YtigkehblnlghkaaGreat.val 4294967296 ((xsb j).take 2)) = ez j := ⟨_, fun _ => rfl⟩
  obtain ⟨Nb, hNnb⟩ : ∃ N, min mb 4 = N := ⟨_, rfl⟩
  obtain ⟨ezc, hzc⟩ : ∃ ez : Nat → Int, ∀ j, sg (ac j) (Proofs.YtigkehblnlghkaaGreat.val 4294967296 ((xsc j).take 1)) = ez j := ⟨_, fun _ => rfl⟩
  obtain ⟨Nc, hNnc⟩ : ∃ N, min mc 3 = N := ⟨_, rfl⟩
  have hba : ∀ i, i < Na → Bd (eza i).natAbs 2 := fun i hi => by
    obtain ⟨p, c, rfl, _, h1⟩ := hla
    obtain ⟨_, _, _, l, _, _, s, _, _, h2⟩ := h1 i (by omega)
    rw [← hza i, sg_abs]
    exact Bd.row _ h2 2
  have hbb : ∀ i, i < Nb → Bd (ezb i).natAbs 2 := fun i hi => by
    obtain ⟨p, c, rfl, _, h1⟩ := hlb
    obtain ⟨_, _, _, l, _, _, s, _, _, h2⟩ := h1 i (by omega)
    rw [← hzb i, sg_abs]
    exact Bd.row _ h2 2
  have hbc : ∀ i, i < Nc → Bd (ezc i).natAbs 1 := fun i hi => by
    obtain ⟨p, c, rfl, _, h1⟩ := hlc
    obtain ⟨_, _, _, l, _, _, s, _, _, h2⟩ := h1 i (by omega)
    rw [← hzc i, sg_abs]
    exact Bd.row _ h2 1
  rcases Nat.eq_zero_or_pos (tl ezb Nb) with h0 | h0
  · exact law_true (path_0 hna hza hNna hnb hzb hNnb hnc hzc hNnc (by rw [trimL_mk]; exact h0)) (vs := [va, vb, vc]) ⟨arg_poly hla, arg_poly hlb, arg_poly hlc, trivial⟩
  obtain ⟨nb, hnb1⟩ : ∃ nb, tl ezb Nb = nb + 1 := ⟨tl ezb Nb - 1, by omega⟩
  obtain ⟨P, hP⟩ : ∃ L, dvL ezb Nb (pcon ezb Nb) = L := ⟨_, rfl⟩
  obtain ⟨BC, hBC⟩ : ∃ L, mulL ezb Nb ezc Nc = L := ⟨_, rfl⟩
  obtain ⟨AL, hAL⟩ : ∃ L, trimL (mk (max Na BC.length) (fun i => upto Na eza i + upto BC.length (coef BC) i)) = L := ⟨_, rfl⟩
  obtain ⟨Z1, hZ1⟩ : ∃ L, trimL (mk Na eza) = L := ⟨_, rfl⟩
  have hleb := tl_le ezb Nb
  have hg0 := pcon_ne h0
  have hPl : P.length = nb + 1 := by rw [← hP, dvL, mk_length, hnb1]
  have hPc : ∀ i, coef P i * pcon ezb Nb = upto Nb ezb i := fun i => by
    rw [← hP, dvL, coef_mk]
    by_cases h1 : i < tl ezb Nb
    · rw [if_pos h1, upto_lt (by omega)]
      exact Int.ediv_mul_cancel (pcon_dvd i (by omega))
    · rw [if_neg h1, Int.zero_mul, tl_out (by omega)]
  have hP0 : ∀ i, nb < i → coef P i = 0 := fun i hi => coef_out (by omega)
  have hPn : 0 < coef P nb := by
    have h1 := hPc nb
    rw [upto_lt (by omega)] at h1
    have h2 : ldZ ezb Nb = ezb nb := by rw [ldZ, if_neg (by omega), hnb1, Nat.add_sub_cancel]
    have h3 := tl_last ezb Nb h0
    rw [hnb1, Nat.add_sub_cancel] at h3
    have h4 := gcdZ_ne h0
    by_cases h5 : ezb nb < 0
    · rw [pcon, if_pos (by omega)] at h1
      rcases Int.lt_or_le 0 (coef P nb) with h7 | h7
      · exact h7
      · have h6 : 0 ≤ coef P nb * -(gcdZ ezb Nb : Int) := Int.mul_nonneg_of_nonpos_of_nonpos h7 (by omega)
        rw [h1] at h6; omega
    · rw [pcon, if_neg (by omega)] at h1
      have h6 : 0 < coef P nb * (gcdZ ezb Nb : Int) := by omega
      exact Int.pos_of_mul_pos_left h6 (by omega)
  obtain ⟨c, hPt⟩ : ∃ c, coef P nb = c := ⟨_, rfl⟩
  have hc : ldZ (coef P) (nb + 1) = c := by
    have : tl (coef P) (nb + 1) = nb + 1 := by
      unfold tl
      rw [if_neg (by omega)]
    rw [ldZ, this, if_neg (by omega), Nat.add_sub_cancel, hPt]
  have hbP : ∀ i, Bd (coef P i).natAbs 2 := fun i => by
    rw [← hP, dvL, coef_mk]
    split
    · exact (hbb i (by omega)).le (Int.natAbs_ediv_le_natAbs ..)
    · exact bd_zeroD _
  have hbB : ∀ i, Bd (coef BC i).natAbs 10 := fun i => by
    rw [← hBC]; exact (mulL_bdD hbb hbc i).more (by omega)
  have hBCl : BC.length ≤ 7 := by rw [← hBC]; exact Nat.le_trans (mulL_le _ _ _ _) (by omega)
  have hALl : AL.length ≤ 7 := by rw [← hAL, trimL_mk]; exact Nat.le_trans (tl_le _ _) (by omega)
  have hALc : ∀ i, coef AL i = upto Na eza i + coef BC i := fun i => by rw [← hAL, coef_add, upto_coef]
  have hZ2 : trimL (mk AL.length (coef AL)) = AL := trim_self AL (hAL ▸ trimL_nrm _)
  have hZ3 : trimL (mk BC.length (coef BC)) = BC := trim_self BC (hBC ▸ mulL_nrm _ _ _ _)
  have hb1 : ∀ i, Bd (coef Z1 i).natAbs 20 := fun i => (coef_bd hZ1 hba i).more (by omega)
  have hZu : ∀ i, coef Z1 i = upto Na eza i := fun i => by rw [← hZ1, coef_tm]
  have hb2 : ∀ i, Bd (coef AL i).natAbs 20 := fun i => by
    rw [hALc, ← hZu]
    exact ((Bd.add1' ((coef_bd hZ1 hba i).more (show 2 ≤ 10 by omega)) (hbB i)).le (Int.natAbs_add_le _ _)).more (by omega)
  have hl1 : Z1.length ≤ 7 := by rw [← hZ1, trimL_mk]; exact Nat.le_trans (tl_le _ _) (by omega)
  have hBCm : ∀ i, coef BC i = conv (fun x => pcon ezb Nb * upto Nc ezc x) (coef P) i := fun i => by
    rw [← hBC, coef_mul, conv_mulL, conv_comm i (upto Nc ezc) (coef P), ← conv_mulL]
    refine conv_congr (fun x _ => ?_) (fun _ _ => rfl)
    rw [← hPc x, Int.mul_comm]
  obtain ⟨q1, hq1, hd1⟩ := rs_div (Z := Z1) (P := P) (nb := nb) (c := c) hPt hP0
  obtain ⟨q2, hq2, hd2⟩ := rs_div (Z := AL) (P := P) (nb := nb) (c := c) hPt hP0
  obtain ⟨q3, hq3, hd3⟩ := rs_div (Z := BC) (P := P) (nb := nb) (c := c) hPt hP0
  have hcp : ∀ k, 0 < c ^ k := fun k => Int.pow_pos (by omega)
  -- what is left of b c is 0
  have hr3 : ∀ i, coef (rsL BC P nb c) i = 0 := by
    refine conv_low (d := fun x => c ^ (BC.length - nb) * (pcon ezb Nb * upto Nc ezc x) + -1 * q3 x) (p := coef P) (n := nb) (by omega) hP0 (fun i hi => rs_low i hi) (fun i => ?_) (N := BC.length + Nc) (fun i hi => ?_)
    · rw [conv_addL i (fun x => c ^ (BC.length - nb) * (pcon ezb Nb * upto Nc ezc x)) (fun x => -1 * q3 x), conv_mulL i (c ^ (BC.length - nb)) (fun x => pcon ezb Nb * upto Nc ezc x), conv_mulL i (-1) q3, ← hBCm]
      have := hd3 i
      rw [Int.mul_comm] at this
      omega
    · show c ^ _ * (_ * upto Nc ezc i) + -1 * q3 i = 0
      rw [hq3 i (by omega), upto_out (by omega)]; simp
  have hr12 : ∀ i, coef (rsL Z1 P nb c) i * c ^ (AL.length - nb) = coef (rsL AL P nb c) i * c ^ (Z1.length - nb) := by
    have h1 : ∀ i, (fun i => coef (rsL Z1 P nb c) i * c ^ (AL.length - nb) - coef (rsL AL P nb c) i * c ^ (Z1.length - nb)) i = 0 := by
      refine conv_low (d := fun x => c ^ (Z1.length - nb) * q2 x + (-(c ^ (AL.length - nb)) * q1 x + -(c ^ (Z1.length - nb) * c ^ (AL.length - nb)) * (pcon ezb Nb * upto Nc ezc x))) (p := coef P) (n := nb) (by omega) hP0 (fun i hi => ?_) (fun i => ?_) (N := AL.length + Z1.length + Nc) (fun i hi => ?_)
      · show coef (rsL Z1 P nb c) i * _ - coef (rsL AL P nb c) i * _ = 0
        rw [rs_low i hi, rs_low i hi]; simp
      · rw [conv_addL i (fun x => c ^ (Z1.length - nb) * q2 x), conv_addL i (fun x => -(c ^ (AL.length - nb)) * q1 x), conv_mulL i (c ^ (Z1.length - nb)) q2, conv_mulL i (-(c ^ (AL.length - nb))) q1, conv_mulL i (-(c ^ (Z1.length - nb) * c ^ (AL.length - nb))) (fun x => pcon ezb Nb * upto Nc ezc x), ← hBCm]
        show _ = coef (rsL Z1 P nb c) i * _ - coef (rsL AL P nb c) i * _
        have e1 := hd1 i
        have e2 := hd2 i
        rw [hALc, ← hZu] at e2
        have e3 : conv q2 (coef P) i = (coef Z1 i + coef BC i) * c ^ (AL.length - nb) - coef (rsL AL P nb c) i := by omega
        have e4 : conv q1 (coef P) i = coef Z1 i * c ^ (Z1.length - nb) - coef (rsL Z1 P nb c) i := by omega
        rw [e3, e4]
        grind
      · show c ^ _ * q2 i + (-(c ^ _) * q1 i + -(c ^ _ * c ^ _) * (_ * upto Nc ezc i)) = 0
        rw [hq2 i (by omega), hq1 i (by omega), upto_out (by omega)]; simp
    exact fun i => by have := h1 i; simp only at this; omega
  have hsame : rstL AL P nb c = rstL Z1 P nb c := (shape_eq (tl_trim _) (tl_trim _) (hcp (AL.length - nb)) (hcp (Z1.length - nb)) hr12).symm
  have hR3 : rstL BC P nb c = [] := by
    refine List.eq_nil_of_length_eq_zero ?_
    rw [rstL, dvL, mk_length]
    exact tl_none fun i _ => hr3 i
  have hRl : (rstL Z1 P nb c).length ≤ nb := by
    rw [rstL, dvL, mk_length]
    refine Nat.le_trans (tl_le _ _) ?_
    rw [rsL, trimL_mk]
    exact Nat.le_trans (tl_le _ _) (Nat.min_le_left _ _)
  exact law_true (path_1 (Z2 := AL) (Z3 := BC) hna hza hNna hnb hzb hNnb hnc hzc hNnc (by rw [trimL_mk, hnb1]) (by omega) hP hPl hc hbP (hPt ▸ hbP nb) hBC hAL hBCl hALl hZ1 hZ2 hZ3 hl1 hALl hBCl hb1 hb2 (fun i => (hbB i).more (by omega)) rfl hsame hR3 hRl (fun _ => rfl)) (vs := [va, vb, vc]) ⟨arg_poly hla, arg_poly hlb, arg_poly hlc, trivial⟩
set_option maxRecDepth 100000 in
theorem lifted (os : Os) (started : os.Started) (H : Type) (enc : TypeId × Value → H) :
    ReturnsInHanded {} Tryz.checked os 10 .any (Rows.pdivEuclidSpec.pre6 enc Tryz.prog Tryz.f10 Rows.pdivEuclidRow.domain false) (Rows.pdivEuclidSpec.post enc Tryz.prog Tryz.f10 false true false false) := by
  refine returnsInHanded_of_change (C := Tryz.checked) Tryz.own started (by kernel_rfl) Tryz.func10
    (ChangeSpec.witness6 (enc := enc) (C := Tryz.checked) false ⟨#[], #[.slice none 0 0, .slice none 0 0, .slice none 0 0], []⟩ 8 (by kernel_rfl) (by kernel_rfl) (by kernel_rfl) (by kernel_rfl)) ?_
  intro W base args ds gs before hval0 hW _ _
  have hval : ∀ (j : Nat) t v, Tryz.f10.params[j]? = some t → args[j]? = some v → Value.okWide Tryz.prog W .any base t v := hval0
  obtain ⟨p, q, hA0, hV, rfl, _, _⟩ := id hW
  have hA : DataW.TrodAll enc Tryz.prog W 0 (fun _ => true) true Tryz.f10.params.toList args.toList ds p := hA0
  rw [Tryz.params10] at hA hval
  obtain ⟨v0, vs0, d0, ds0, p0, q0, hargs, rfl, rfl, h0, r0⟩ := trodAll_cons hA
  obtain ⟨v1, vs1, d1, ds1, p1, q1, rfl, rfl, rfl, h1, r1⟩ := trodAll_cons r0
  obtain ⟨v2, vs2, d2, ds2, p2, q2, rfl, rfl, rfl, h2, r2⟩ := trodAll_cons r1
  obtain ⟨rfl, rfl, rfl⟩ := trodAll_nil r2
  obtain rfl : args = #[v0, v1, v2] := by cases args; simp_all
  obtain ⟨n0, a0, xs0, l0, s0⟩ := poly_of_trod h0 (hval 0 23 v0 rfl rfl)
  obtain ⟨n1, a1, xs1, l1, s1⟩ := poly_of_trod h1 (hval 1 23 v1 rfl rfl)
  obtain ⟨n2, a2, xs2, l2, s2⟩ := poly_of_trod h2 (hval 2 23 v2 rfl rfl)
  refine (walk l0 s0 l1 s1 l2 s2).mono fun e W' ⟨he, hg⟩ => ?_
  subst he
  refine ⟨_, rfl, law_post Tryz.laidOut rfl (by kernel_rfl) Tryz.underlying4 ?_ ?_ hW hg⟩
  · rw [Tryz.params10]; decide +kernel
  · rw [Tryz.params10]
    intro ds h
    match ds, h with
    | [_, _, _], _ => rfl

theorem holds : Rows.PdivEuclidSaid :=
  OpenClaim.holds_of_wide 10 Tryz.f10 rfl rfl rfl rfl rfl rfl rfl ⟨rfl, rfl, rfl, rfl, rfl⟩ rfl rfl rfl rfl rfl (by kernel_rfl) Tryz.func10 (by kernel_rfl)
    (of_decide_eq_true (by kernel_rfl)) (by unfold Func.isWrapper; first | (rw [if_pos (by decide +kernel)]; kernel_rfl) | (rw [if_neg (by decide +kernel)]; exact ⟨rfl, rfl⟩))
    (fun os started H enc _ => lifted os started H enc)

end Go.Proofs.YtigkehblnlghkaaGreat.veuclid
