/- PdivBack holds: for every two polynomials the law returns true and leaves them as they were. No condition. -/
import Derived.Test.YtigkehblnlghkaaGreatDivW
import Derived.Test.YtigkehblnlghkaaGreatPolI
import Derived.Test.YtigkehblnlghkaaGreatPolQ
namespace Go.Proofs.YtigkehblnlghkaaGreat.vback
open Go.ChangeShapes Go.WideShapes Go.ChangeAt Go.RowKit
open Go.Proofs.YtigkehblnlghkaaGreat.Sym hiding val run start

theorem scaled_row {L : List Int} {n k K : Nat} {z : Nat → Int} (hL : L.length = n ∧ ∀ i, i < n → coef L i = z i ∧ Bd (z i).natAbs K) {w : World} {v : Value} (h : Rw 2 (fun i w v => NorV w v (coef L i) k) L.length w v) : Rw 2 (fun i w v => IntV w v (z i) K) n w v :=
  Rw.to (Rw.len h hL.1) fun i _w _v hi h => (NorV.re (h.eq (hL.2 i hi).1) (hL.2 i hi).2).i
section
variable {Φ : Nat → World → Value → Prop} {p q x y t n0 n1 k k1 nb m kp K KQ : Nat} {z0 z1 : Nat → Int} {c : Int} {Z Y L2 QL : List Int}
theorem sPseudo (hp : ∀ w v, Φ p w v → Rw 2 (fun i w v => IntV w v (z0 i) k) n0 w v) (hq : ∀ w v, Φ q w v → Rw 2 (fun i w v => IntV w v (z1 i) k1) n1 w v) (hx : Φ x = fun w v => Rw 2 (fun i w v => NorV w v (coef QL i) KQ) QL.length w v) (hy : Φ y = fun w v => Rw 2 (fun i w v => NorV w v (coef L2 i) K) L2.length w v) (ht : Φ t = fun _ v => v = .int .i64 ((m : Nat) : Int))
    (hn0 : n0 ≤ 1000000) (hn1 : n1 ≤ 1000000) (hk : k ≤ 90000) (hk1 : k1 ≤ 90000) (hY : trimL (mk n1 z1) = Y) (hkK : k ≤ K) (hYl : Y.length = nb + 1) (hnb : nb ≤ 800000) (hZ : trimL (mk n0 z0) = Z) (hZl : Z.length ≤ 1000000) (hm : m = Z.length - nb) (hkp : kp ≤ 90000) (hK : K ≤ 90000) (hKQ : KQ ≤ 90000) (hKK : K ≤ KQ) (hc : ldZ (coef Y) (nb + 1) = c) (hB : ∀ j, j ≤ m → Bd (c ^ j).natAbs kp) (hA1 : ∀ j p, j < m → Bd (rA1 (coef Z) (coef Y) nb m c j p).natAbs K) (hM : ∀ j i p, j < m → Bd (rMid (coef Z) (coef Y) nb m c j i p).natAbs K) (hL2 : trimL (mk (min nb Z.length) (rdA (coef Z) (coef Y) nb m c m)) = L2) (hQ : ∀ j, j < m → Bd (psQ (dto m m (rdT (coef Z) (coef Y) nb m c)) c (j + 1) j).natAbs KQ) (hQL : mk m (fun p => dto m m (rdT (coef Z) (coef Y) nb m c) p * c ^ p) = QL) :
    SiteOk Φ Tryz.prog ⟨38, [.fact p, .fact q], [⟨.one .s, [(0, 0, x)]⟩, ⟨.one .s, [(0, 0, y)]⟩, ⟨.one .i, [(0, 0, t)]⟩, ⟨.one (.lit (.ci .i64 0)), []⟩], true⟩ :=
  viaG (ppseudo hn0 hn1 hk hk1 hY hkK hYl hnb hZ hZl hm hkp hK hKQ hKK hc hB hA1 hM hL2 hQ) ⟨hp, hq, trivial⟩ ⟨⟨rfl, ⟨rfl, rfl, fun w v h => by
    rw [hx, ← hQL, mk_length]
    exact Rw.to (sz := 2) (n := m) (F := fun i w v => NorV w v (psQ (dto m m (rdT (coef Z) (coef Y) nb m c)) c m i) KQ) (ArrO.rw (e := 26) h) fun i w v hi h => h.eq (by rw [psQ, if_pos hi, coef_mk, if_pos hi])⟩, trivial⟩, ⟨rfl, ⟨rfl, rfl, fun _ _ h => hy ▸ h⟩, trivial⟩, ⟨rfl, ⟨rfl, rfl, fun _ _ h => ht ▸ h⟩, trivial⟩, ⟨rfl, trivial⟩, trivial⟩
theorem sExact6 {ML : List Int} (hp : ∀ w v, Φ p w v → Rw 2 (fun i w v => IntV w v (coef ML i) k) ML.length w v) (hq : ∀ w v, Φ q w v → Rw 2 (fun i w v => IntV w v (z1 i) k1) n1 w v) (hx : Φ x = fun w v => Rw 2 (fun i w v => NorV w v (coef Z i) K) Z.length w v)
    (hn0 : ML.length ≤ 1000000) (hn1 : n1 ≤ 1000000) (hk : k ≤ 90000) (hk1 : k1 ≤ 90000) (hY : trimL (mk n1 z1) = Y) (hkK : k ≤ K) (hYl : Y.length = nb + 1) (hnb : nb ≤ 800000) (hZ : trimL (mk ML.length (coef ML)) = ML) (hZl : ML.length ≤ 1000000) (hm : m = ML.length - nb) (hK : K ≤ 90000) (hc : ldZ (coef Y) (nb + 1) = c) (hc0 : c ≠ 0) (hdv : ∀ j, j < m → c ∣ exA (coef ML) (coef Y) nb m c j (m - 1 - j + nb)) (hM : ∀ j i p, j < m → Bd (exM (coef ML) (coef Y) nb m c j i p).natAbs K) (hL2 : trimL (mk (min nb ML.length) (exA (coef ML) (coef Y) nb m c m)) = []) (hE : ∀ i, i < m → dto m m (exT (coef ML) (coef Y) nb m c) i = coef Z i) (hmZ : m = Z.length) :
    SiteOk Φ Tryz.prog ⟨41, [.fact p, .fact q], [⟨.one .s, [(0, 0, x)]⟩, ⟨.one (.lit (.ci .i64 0)), []⟩], true⟩ :=
  viaG (pexact hn0 hn1 hk hk1 hY hkK hYl hnb hZ hZl hm hK hc hc0 hdv hM hL2) ⟨hp, hq, trivial⟩ ⟨⟨rfl, ⟨rfl, rfl, fun w v h => by
    rw [hx, ← hmZ]
    exact Rw.to (sz := 2) (n := m) (F := fun i w v => NorV w v (dto m m (exT (coef ML) (coef Y) nb m c) i) K) (ArrO.rw (e := 26) h) fun i w v hi h => h.eq (hE i hi)⟩, trivial⟩, ⟨rfl, trivial⟩, trivial⟩
end
section
variable {q y z : Nat → Int} {n m kz ky : Nat} {c : Int}
theorem ex_all (hy : y n = c) (hy0 : ∀ i, n < i → y i = 0) (hc : c ≠ 0) (hq : ∀ i, m ≤ i → q i = 0) : ∀ {j}, j ≤ m → (∀ p, p < m - j + n → exA (conv q y) y n m c j p = conv (upto (m - j) q) y p) ∧ (j < m → exA (conv q y) y n m c j (m - 1 - j + n) = q (m - 1 - j) * c) := by
  have hst : ∀ i p, conv (upto (i + 1) q) y p = conv (upto i q) y p + (if i ≤ p then q i * y (p - i) else 0) := fun i p => by
    rw [← conv_one (q i) i y p, ← conv_addL]
    refine conv_congr (fun x _ => ?_) (fun _ _ => rfl)
    unfold upto
    by_cases h1 : x = i
    · subst h1; rw [if_pos (by omega), if_neg (by omega), if_pos rfl]; omega
    · by_cases h2 : x < i
      · rw [if_pos (by omega), if_pos h2, if_neg h1]; omega
      · rw [if_neg (by omega), if_neg h2, if_neg h1]; omega
  have hnext : ∀ {j}, j < m → (∀ p, p < m - j + n → exA (conv q y) y n m c j p = conv (upto (m - j) q) y p) → exA (conv q y) y n m c j (m - 1 - j + n) = q (m - 1 - j) * c := fun {j} hj h => by
    rw [h _ (by omega), show m - j = m - 1 - j + 1 by omega, hst, if_pos (by omega), show m - 1 - j + n - (m - 1 - j) = n by omega, hy, conv_out (a := m - 1 - j) (b := n + 1) (fun i hi => upto_out hi) (fun i hi => hy0 i (by omega)) (by omega)]; omega
  have hall : ∀ j, j ≤ m → ∀ p, p < m - j + n → exA (conv q y) y n m c j p = conv (upto (m - j) q) y p := fun j => by
    induction j with
    | zero =>
      intro _ p _
      exact conv_congr (fun i _ => by
        unfold upto
        split
        · rfl
        · exact hq i (by omega)) (fun _ _ => rfl)
    | succ j ih =>
      intro hj p hp
      have h1 := ih (by omega)
      have h2 := hnext (by omega) h1
      show exS (exA (conv q y) y n m c j) y (exA (conv q y) y n m c j (m - 1 - j + n) / c) (m - 1 - j) n p = _
      rw [h2, Int.mul_ediv_cancel _ hc, exS]
      have h3 := hst (m - 1 - j) p
      rw [show m - 1 - j + 1 = m - j by omega] at h3
      rw [show m - (j + 1) = m - 1 - j by omega]
      split
      · rename_i h4
        rw [h1 p (by omega), h3, if_pos h4.1]; omega
      · rw [h1 p (by omega), h3, if_neg (by omega)]; omega
  exact fun {j} hj => ⟨hall j hj, fun h => hnext h (hall j hj)⟩
theorem ex_bd (hz : ∀ p, Bd (z p).natAbs kz) (hy : ∀ p, Bd (y p).natAbs ky) : ∀ j, (∀ p, Bd (exA z y n m c j p).natAbs (kz + j * (ky + 1))) ∧ ∀ i p, Bd (exM z y n m c j i p).natAbs (kz + (j + 1) * (ky + 1)) := by
  have hM : ∀ j, (∀ p, Bd (exA z y n m c j p).natAbs (kz + j * (ky + 1))) → ∀ i p, Bd (exM z y n m c j i p).natAbs (kz + (j + 1) * (ky + 1)) := fun j h i p => by
    unfold exM exS
    split
    · have h1 : Bd (exA z y n m c j (m - 1 - j + n) / c).natAbs (kz + j * (ky + 1)) := (h _).le (Int.natAbs_ediv_le_natAbs ..)
      have h2 := Bd.mul h1 (hy (p - (m - 1 - j)))
      refine (Bd.le (B := (exA z y n m c j p - exA z y n m c j (m - 1 - j + n) / c * y (p - (m - 1 - j))).natAbs) (Bd.add1' ((h p).more (by omega)) h2) ?_).more ?_
      · rw [← Int.natAbs_mul]; omega
      · rw [Nat.succ_mul]; omega
    · refine (h p).more ?_
      rw [Nat.succ_mul]; omega
  have hA : ∀ j, ∀ p, Bd (exA z y n m c j p).natAbs (kz + j * (ky + 1)) := fun j => by
    induction j with
    | zero => exact fun p => (hz p).more (by omega)
    | succ j ih => exact hM j ih n
  exact fun j => ⟨hA j, hM j (hA j)⟩
end
theorem tl_none {f : Nat → Int} : ∀ {n : Nat}, (∀ i, i < n → f i = 0) → tl f n = 0
  | 0, _ => rfl
  | n + 1, h => by
    unfold tl
    rw [if_pos (h n (by omega)), tl_none fun i hi => h i (by omega)]
theorem tl_same {f g : Nat → Int} {n m : Nat} (hn : n = m ∨ n = tl g m) (h : ∀ i, i < m → (f i = 0 ↔ g i = 0)) : tl f n = tl g m := by
  have hle := tl_le g m
  have key : ∀ k, k ≤ m → (∀ i, tl g m ≤ i → i < k → g i = 0) → tl g m ≤ k → tl f k = tl g m := fun k => by
    induction k with
    | zero => intro _ _ h2; rw [show tl g m = 0 by omega]; rfl
    | succ k ih =>
      intro hk h1 h2
      show (if f k = 0 then tl f k else k + 1) = tl g m
      by_cases h3 : f k = 0
      · have h4 := (h k (by omega)).1 h3
        have h5 : tl g m ≠ k + 1 := fun e => tl_last g m (by omega) (by rw [e, Nat.add_sub_cancel]; exact h4)
        rw [if_pos h3]
        exact ih (by omega) (fun i hi hi' => h1 i hi (by omega)) (by omega)
      · rw [if_neg h3]
        rcases Nat.lt_or_ge k (tl g m) with h4 | h4
        · omega
        · exact absurd ((h k (by omega)).2 (h1 k h4 (by omega))) h3
  rcases hn with rfl | rfl
  · exact key n (Nat.le_refl _) (fun i h1 h2 => tl_zero g n i h1 h2) hle
  · exact key _ hle (fun i h1 h2 => by omega) (Nat.le_refl _)
theorem coef_tm (n : Nat) (f : Nat → Int) (i : Nat) : coef (trimL (mk n f)) i = upto n f i := by
  rw [coef_trim, coef_mk]; rfl
theorem coef_bd {L : List Int} {k n : Nat} {f : Nat → Int} (hL : trimL (mk n f) = L) (h : ∀ i, i < n → Bd (f i).natAbs k) (i : Nat) : Bd (coef L i).natAbs k := by
  rw [← hL, coef_tm]
  unfold upto
  split
  · exact h i (by assumption)
  · exact bd_zeroD k
def b_path_0 (aa ab : Nat → Bool) (xsa xsb : Nat → List Nat) (eza ezb : Nat → Int) (ma mb Na Nb : Nat) : List (World → Value → Prop) := [fun w v => Rw 2 (fun ι w v => RawI w v (aa ι) (xsa ι)) ma w v, fun w v => Rw 2 (fun ι w v => RawI w v (ab ι) (xsb ι)) mb w v, fun w v => Rw 2 (fun ι w v => KI w v (aa ι) ((fun ι => (xsa ι).take 3) ι) (eza ι) 3) Na w v, fun w v => Rw 4 (fun ι w v => DecQ w v ((((coef (trimL (mk Na eza))) ι : Int) : Rat)) (3 + 2 + 2)) ((trimL (mk Na eza)).length) w v, fun w v => Rw 2 (fun ι w v => KI w v (ab ι) ((fun ι => (xsb ι).take 3) ι) (ezb ι) 3) Nb w v, fun w v => Rw 4 (fun ι w v => DecQ w v ((((coef (trimL (mk Nb ezb))) ι : Int) : Rat)) (3 + 2 + 2)) ((trimL (mk Nb ezb)).length) w v, fun _ v => v = .int .i64 (((trimL (mk Nb ezb)).length : Nat) : Int)]
def ss_path_0 : List Step := [.base ⟨11, [.fact 0, .lit (.ci .i64 10), .lit (.ci .i64 3)], [⟨.one (.s), [(0, 0, 2)]⟩, ⟨.one (.s), [(0, 0, 3)]⟩], true⟩,
      .base ⟨11, [.fact 1, .lit (.ci .i64 7), .lit (.ci .i64 3)], [⟨.one (.s), [(0, 0, 4)]⟩, ⟨.one (.s), [(0, 0, 5)]⟩], true⟩,
      .base ⟨0, [.fact 5], [⟨.one (.i), [(0, 0, 6)]⟩], .quiet (mLen 30)⟩,
      .base ⟨0, [.fact 6, .lit (.ci .i64 0)], [⟨.one (.lit (.cb true)), []⟩], .quiet (mBin .eql)⟩,
      .base ⟨37, [], [⟨.one (.lit (.cb true)), []⟩], false⟩]
def ins_path_0 : List Out := [⟨.one (.s), [(0, 0, 0)]⟩, ⟨.one (.s), [(0, 0, 1)]⟩]
set_option maxHeartbeats 1000000 in
set_option maxRecDepth 100000 in
theorem path_0 {aa ab : Nat → Bool} {xsa xsb : Nat → List Nat} {eza ezb : Nat → Int} {ma mb Na Nb : Nat} (hna : ma ≤ 9223372036854775807) (hza : ∀ j, sg (aa j) (Proofs.YtigkehblnlghkaaGreat.val 4294967296 ((xsa j).take 3)) = eza j) (hNna : min ma 10 = Na) (hnb : mb ≤ 9223372036854775807) (hzb : ∀ j, sg (ab j) (Proofs.YtigkehblnlghkaaGreat.val 4294967296 ((xsb j).take 3)) = ezb j) (hNnb : min mb 7 = Nb) (h0 : (trimL (mk Nb ezb)).length = 0) : SiteOk (ph (b_path_0 aa ab xsa xsb eza ezb ma mb Na Nb)) Tryz.prog ⟨8, [.fact 0, .fact 1], [⟨.one (.lit (.cb true)), []⟩], false⟩ := by
  skip
  exact fn_okL ins_path_0 [⟨.one (.lit (.cb true)), []⟩] ss_path_0 Tryz.func8 (by kernel_rfl)
    (lbase (sCut5 10 3 rfl rfl (fun _ _ h => h) rfl rfl (by omega) (by omega) (by omega) hza hNna)
      (lbase (sCut5 7 3 rfl rfl (fun _ _ h => h) rfl rfl (by omega) (by omega) (by omega) hzb hNnb)
      (lbase (qLen (sz := 4) (n := (trimL (mk Nb ezb)).length) (F := (fun ι w v => DecQ w v ((((coef (trimL (mk Nb ezb))) ι : Int) : Rat)) (3 + 2 + 2))) Tryz.underlying30 (fun _ _ h => Rw.arr h) rfl)
      (lbase (qTestC (op := .eql) (fun _ _ h => h) (ts_run (decide_eq_true (by omega)) (by simp)))
      (lbase (sWakes6)
      lnil)))))
    (ins_ok [.fact 0 (.one (.s)), .fact 1 (.one (.s))] ⟨fun _ _ h => Rw.is (sz := 2) (F := (fun ι w v => RawI w v (aa ι) (xsa ι))) (n := ma) h, fun _ _ h => Rw.is (sz := 2) (F := (fun ι w v => RawI w v (ab ι) (xsb ι))) (n := mb) h, trivial⟩) (fun _ _ _ h => h)

def b_path_1 (aa ab : Nat → Bool) (xsa xsb : Nat → List Nat) (eza ezb : Nat → Int) (ma mb Na Nb nb m : Nat) (c : Int) (Z L2 QL ML PL SL : List Int) : List (World → Value → Prop) := [fun w v => Rw 2 (fun ι w v => RawI w v (aa ι) (xsa ι)) ma w v, fun w v => Rw 2 (fun ι w v => RawI w v (ab ι) (xsb ι)) mb w v, fun w v => Rw 2 (fun ι w v => KI w v (aa ι) ((fun ι => (xsa ι).take 3) ι) (eza ι) 3) Na w v, fun w v => Rw 4 (fun ι w v => DecQ w v ((((coef (trimL (mk Na eza))) ι : Int) : Rat)) (3 + 2 + 2)) ((trimL (mk Na eza)).length) w v, fun w v => Rw 2 (fun ι w v => KI w v (ab ι) ((fun ι => (xsb ι).take 3) ι) (ezb ι) 3) Nb w v, fun w v => Rw 4 (fun ι w v => DecQ w v ((((coef (trimL (mk Nb ezb))) ι : Int) : Rat)) (3 + 2 + 2)) ((trimL (mk Nb ezb)).length) w v, fun _ v => v = .int .i64 (((trimL (mk Nb ezb)).length : Nat) : Int), fun w v => Rw 2 (fun ι w v => NorV w v ((coef QL) ι) 120) QL.length w v, fun w v => Rw 2 (fun ι w v => NorV w v ((coef L2) ι) 60) L2.length w v, fun _ v => v = .int .i64 ((m : Nat) : Int), fun w v => Rw 2 (fun ι w v => IntV w v ((fun i => eza i * c ^ m) ι) 60) (if m = 0 then Na else tl eza Na) w v, fun w v => Rw 2 (fun ι w v => NorV w v ((coef ML) ι) (3 + 3 + 20 + 1)) ML.length w v, fun w v => Rw 2 (fun ι w v => NorV w v ((coef Z) ι) 100) Z.length w v, fun w v => Rw 2 (fun ι w v => NorV w v ((coef PL) ι) (120 + 3 + 20 + 1)) PL.length w v, fun w v => Rw 2 (fun ι w v => NorV w v ((coef SL) ι) ((120 + 3 + 20 + 1) + 60 + 1)) SL.length w v, fun _ v => v = .int .i64 ((L2.length : Nat) : Int), fun _ v => v = .int .i64 (((trimL (mk Nb ezb)).length : Nat) : Int), fun _ v => v = .int .i64 (((nb + 1) : Nat) : Int)]
def l_path_1_1 (eza : Nat → Int) (Na : Nat) (c : Int) (j : Nat) : List (World → Value → Prop) := [fun _ v => v = .int .i64 ((j : Nat) : Int), fun w v => Rw 2 (fun ι w v => IntV w v ((fun i => eza i * c ^ j) ι) 60) (if j = 0 then Na else tl eza Na) w v, fun w v => NorV w v c 3, fun w v => Rw 2 (fun ι w v => NorV w v ((coef (trimL (mk (if j = 0 then Na else tl eza Na) (fun i => (fun i => eza i * c ^ j) i * c)))) ι) (60 + 3)) ((trimL (mk (if j = 0 then Na else tl eza Na) (fun i => (fun i => eza i * c ^ j) i * c))).length) w v, fun _ v => v = .int .i64 (((j + 1) : Nat) : Int)]
def d_path_1_1 : LoopD := ⟨[0, 1, 4, 5, 6, 7, 8, 9, 14, 15, 16, 17, 18, 19, 20, 21, 22, 23, 24, 25, 26, 28, 29, 30, 31, 32, 33, 34, 35, 36], [(.slot 11, .i), (.slot 10, .s)], [(.one 0, 18), (.one 1, 19)], [.closed (.one (.ci .i64 0)), .from 2], 18, [(19, 10)]⟩
def r_path_1_1_0 : List Step := [.base ⟨0, [.fact 18, .fact 9], [⟨.one (.lit (.cb true)), []⟩], .quiet (mBin .lss)⟩,
      .base ⟨45, [.fact 4], [⟨.agg [.b, .s], [(0, 0, 20)]⟩], false⟩,
      .base ⟨22, [.fact 19, .fact 20], [⟨.one (.s), [(0, 0, 21)]⟩], false⟩,
      .base ⟨0, [.fact 18, .lit (.ci .i64 1)], [⟨.one (.i), [(0, 0, 22)]⟩], .quiet (mBin .add)⟩]
def o_path_1_1 : List Step := [.base ⟨0, [.fact 18, .fact 9], [⟨.one (.lit (.cb false)), []⟩], .quiet (mBin .lss)⟩]
def ss_path_1 : List Step := [.base ⟨11, [.fact 0, .lit (.ci .i64 10), .lit (.ci .i64 3)], [⟨.one (.s), [(0, 0, 2)]⟩, ⟨.one (.s), [(0, 0, 3)]⟩], true⟩,
      .base ⟨11, [.fact 1, .lit (.ci .i64 7), .lit (.ci .i64 3)], [⟨.one (.s), [(0, 0, 4)]⟩, ⟨.one (.s), [(0, 0, 5)]⟩], true⟩,
      .base ⟨0, [.fact 5], [⟨.one (.i), [(0, 0, 6)]⟩], .quiet (mLen 30)⟩,
      .base ⟨0, [.fact 6, .lit (.ci .i64 0)], [⟨.one (.lit (.cb false)), []⟩], .quiet (mBin .eql)⟩,
      .base ⟨38, [.fact 2, .fact 4], [⟨.one (.s), [(0, 0, 7)]⟩, ⟨.one (.s), [(0, 0, 8)]⟩, ⟨.one (.i), [(0, 0, 9)]⟩, ⟨.one (.lit (.ci .i64 0)), []⟩], true⟩,
      .loop d_path_1_1 [(r_path_1_1_0, [.from 22, .from 21])] o_path_1_1,
      .base ⟨13, [.fact 2, .fact 4], [⟨.one (.s), [(0, 0, 11)]⟩], false⟩,
      .base ⟨41, [.fact 11, .fact 4], [⟨.one (.s), [(0, 0, 12)]⟩, ⟨.one (.lit (.ci .i64 0)), []⟩], true⟩,
      .base ⟨13, [.fact 7, .fact 4], [⟨.one (.s), [(0, 0, 13)]⟩], false⟩,
      .base ⟨17, [.fact 13, .fact 8], [⟨.one (.s), [(0, 0, 14)]⟩], false⟩,
      .base ⟨15, [.fact 10, .fact 14], [⟨.one (.lit (.cb true)), []⟩], false⟩,
      .base ⟨0, [.fact 8], [⟨.one (.i), [(0, 0, 15)]⟩], .quiet (mLen 23)⟩,
      .base ⟨0, [.fact 5], [⟨.one (.i), [(0, 0, 16)]⟩], .quiet (mLen 30)⟩,
      .base ⟨0, [.fact 16, .lit (.ci .i64 1)], [⟨.one (.i), [(0, 0, 17)]⟩], .quiet (mMax .max)⟩,
      .base ⟨0, [.fact 15, .fact 17], [⟨.one (.lit (.cb true)), []⟩], .quiet (mBin .lss)⟩,
      .base ⟨15, [.fact 12, .fact 2], [⟨.one (.lit (.cb true)), []⟩], false⟩,
      .base ⟨37, [], [⟨.one (.lit (.cb true)), []⟩], false⟩]
def ins_path_1 : List Out := [⟨.one (.s), [(0, 0, 0)]⟩, ⟨.one (.s), [(0, 0, 1)]⟩]
set_option maxHeartbeats 1000000 in
set_option maxRecDepth 100000 in
theorem path_1 {aa ab : Nat → Bool} {xsa xsb : Nat → List Nat} {eza ezb : Nat → Int} {ma mb Na Nb nb m m2 : Nat} {c : Int} {Z Y L2 QL ML PL SL : List Int} (hna : ma ≤ 9223372036854775807) (hza : ∀ j, sg (aa j) (Proofs.YtigkehblnlghkaaGreat.val 4294967296 ((xsa j).take 3)) = eza j) (hNna : min ma 10 = Na) (hnb : mb ≤ 9223372036854775807) (hzb : ∀ j, sg (ab j) (Proofs.YtigkehblnlghkaaGreat.val 4294967296 ((xsb j).take 3)) = ezb j) (hNnb : min mb 7 = Nb) (h0 : (trimL (mk Nb ezb)).length = nb + 1) (hY : trimL (mk Nb ezb) = Y) (hYl : Y.length = nb + 1) (hnb : nb ≤ 6) (hZ : trimL (mk Na eza) = Z) (hZl : Z.length ≤ 10) (hm : m = Z.length - nb)
    (hc : ldZ (coef Y) (nb + 1) = c) (hcb : ldZ ezb Nb = c) (hc0 : c ≠ 0) (hB : ∀ j, j ≤ m → Bd (c ^ j).natAbs 40)
    (hA1 : ∀ j p, j < m → Bd (rA1 (coef Z) (coef Y) nb m c j p).natAbs 60) (hM : ∀ j i p, j < m → Bd (rMid (coef Z) (coef Y) nb m c j i p).natAbs 60) (hL2 : trimL (mk (min nb Z.length) (rdA (coef Z) (coef Y) nb m c m)) = L2)
    (hQ : ∀ j, j < m → Bd (psQ (dto m m (rdT (coef Z) (coef Y) nb m c)) c (j + 1) j).natAbs 120) (hQL : mk m (fun p => (dto m m (rdT (coef Z) (coef Y) nb m c)) p * c ^ p) = QL)
    (hML : mulL eza Na ezb Nb = ML) (hML' : trimL (mk ML.length (coef ML)) = ML) (hMLl : ML.length ≤ 17) (hm2 : m2 = ML.length - nb)
    (hdv : ∀ j, j < m2 → c ∣ exA (coef ML) (coef Y) nb m2 c j (m2 - 1 - j + nb)) (hM2 : ∀ j i p, j < m2 → Bd (exM (coef ML) (coef Y) nb m2 c j i p).natAbs 100)
    (hL20 : trimL (mk (min nb ML.length) (exA (coef ML) (coef Y) nb m2 c m2)) = []) (hE2 : ∀ i, i < m2 → dto m2 m2 (exT (coef ML) (coef Y) nb m2 c) i = coef Z i) (hZm2 : m2 = Z.length)
    (hPL : mulL (coef QL) QL.length ezb Nb = PL) (hSL : trimL (mk (max PL.length L2.length) (fun i => upto PL.length (coef PL) i + upto L2.length (coef L2) i)) = SL)
    (hQLl : QL.length ≤ 10) (hPLl : PL.length ≤ 17) (hL2l : L2.length ≤ nb) (hSLl : SL.length ≤ 17)
    (hS : ∀ j, j < m → (trimL (mk (if j = 0 then Na else tl eza Na) (fun i => eza i * c ^ j * c))).length = (if j + 1 = 0 then Na else tl eza Na) ∧ ∀ i, i < (if j + 1 = 0 then Na else tl eza Na) → coef (trimL (mk (if j = 0 then Na else tl eza Na) (fun i => eza i * c ^ j * c))) i = eza i * c ^ (j + 1) ∧ Bd (eza i * c ^ (j + 1)).natAbs 60)
    (hE1 : ∀ i, upto (if m = 0 then Na else tl eza Na) (fun i => eza i * c ^ m) i = upto SL.length (coef SL) i) (hE2x : ∀ i, upto Z.length (coef Z) i = upto Na eza i) : SiteOk (ph (b_path_1 aa ab xsa xsb eza ezb ma mb Na Nb nb m c Z L2 QL ML PL SL)) Tryz.prog ⟨8, [.fact 0, .fact 1], [⟨.one (.lit (.cb true)), []⟩], false⟩ := by
  have hle := tl_le eza Na; have hn6 : (if m = 0 then Na else tl eza Na) ≤ 10 := by split <;> omega
  exact fn_okL ins_path_1 [⟨.one (.lit (.cb true)), []⟩] ss_path_1 Tryz.func8 (by kernel_rfl)
    (lbase (sCut5 10 3 rfl rfl (fun _ _ h => h) rfl rfl (by omega) (by omega) (by omega) hza hNna)
      (lbase (sCut5 7 3 rfl rfl (fun _ _ h => h) rfl rfl (by omega) (by omega) (by omega) hzb hNnb)
      (lbase (qLen (sz := 4) (n := (trimL (mk Nb ezb)).length) (F := (fun ι w v => DecQ w v ((((coef (trimL (mk Nb ezb))) ι : Int) : Rat)) (3 + 2 + 2))) Tryz.underlying30 (fun _ _ h => Rw.arr h) rfl)
      (lbase (qTestC (op := .eql) (fun _ _ h => h) (ts_run (decide_eq_false (by omega)) (by simp)))
      (lbase (sPseudo (fun _ _ h => Rw.to (sz := 2) (n := Na) (F := (fun ι w v => KI w v (aa ι) ((fun ι => (xsa ι).take 3) ι) (eza ι) 3)) (h) (fun i w v _ h => (fun _ _ _ h => And.right h) i w v h)) (fun _ _ h => Rw.to (sz := 2) (n := Nb) (F := (fun ι w v => KI w v (ab ι) ((fun ι => (xsb ι).take 3) ι) (ezb ι) 3)) (h) (fun i w v _ h => (fun _ _ _ h => And.right h) i w v h)) rfl rfl rfl (by omega) (by omega) (by omega) (by omega) hY (by omega) hYl (by omega) hZ (by omega) hm (by omega) (by omega) (by omega) (by omega) hc hB hA1 hM hL2 hQ hQL)
      (lloop (counted m (fun j => ph (b_path_1 aa ab xsa xsb eza ezb ma mb Na Nb nb m c Z L2 QL ML PL SL ++ l_path_1_1 eza Na c j)) (fun _ => 0) (fun j p hp => ph_app' (show p < (b_path_1 aa ab xsa xsb eza ezb ma mb Na Nb nb m c Z L2 QL ML PL SL).length from hp)) ⟨fun _ => rfl, fun _ _ h => Rw.len (n := Na) (Rw.to (sz := 2) (n := Na) (F := fun ι w v => KI w v (aa ι) ((xsa ι).take 3) (eza ι) 3) (G := (fun ι w v => IntV w v ((fun i => eza i * c ^ 0) ι) 60)) h fun i w v _ h => by show IntV w v (eza i * c ^ 0) 60; rw [Int.pow_zero, Int.mul_one]; exact IntV.more h.2 (by omega)) (if_pos rfl).symm, trivial⟩ (fun j hj => by
      have hn5 : (if j = 0 then Na else tl eza Na) ≤ 10 := by split <;> omega
      exact ⟨(r_path_1_1_0, [.from 22, .from 21]), rfl, ⟨fun _ _ h => h, fun _ _ h => scaled_row (hS j hj) h, trivial⟩, (lbase (qTest (op := .lss) (fun _ _ h => h) (fun _ _ h => h) (ts_run (decide_eq_true (by omega)) (by simp)))
      (lbase (sLead (z := ezb) (n := Nb) (fun _ _ h => Rw.to (sz := 2) (n := Nb) (F := (fun ι w v => KI w v (ab ι) ((fun ι => (xsb ι).take 3) ι) (ezb ι) 3)) (h) (fun i w v _ h => (fun _ _ _ h => And.right h) i w v h)) rfl (by omega) (by omega) (hcb))
      (lbase (sScaleP (z := (fun i => eza i * c ^ j)) (n := (if j = 0 then Na else tl eza Na)) (fun _ _ h => Rw.to (sz := 2) (n := (if j = 0 then Na else tl eza Na)) (F := (fun ι w v => IntV w v ((fun i => eza i * c ^ j) ι) 60)) (h) (fun i w v _ h => (fun _ _ _ h => h) i w v h)) nI rfl (by omega) (by omega) rfl)
      (lbase (qAddK (fun _ _ h => h) (by omega) rfl (by omega) (by omega))
      lnil))))⟩)
      (lbase (qTest (op := .lss) (fun _ _ h => h) (fun _ _ h => h) (ts_run (decide_eq_false (by omega)) (by simp)))
      lnil)
      (fun q hq w v h => by
        simp only [d_path_1_1, List.mem_cons, List.not_mem_nil, or_false] at hq
        rcases hq with rfl
        · exact (fun h => h) h)) (lbase (sPMul (c := 20) (z := eza) (n := Na) (y := ezb) (m := Nb) (fun _ _ h => Rw.to (sz := 2) (n := Na) (F := (fun ι w v => KI w v (aa ι) ((fun ι => (xsa ι).take 3) ι) (eza ι) 3)) (h) (fun i w v _ h => (fun _ _ _ h => And.right h) i w v h)) (fun _ _ h => Rw.to (sz := 2) (n := Nb) (F := (fun ι w v => KI w v (ab ι) ((fun ι => (xsb ι).take 3) ι) (ezb ι) 3)) (h) (fun i w v _ h => (fun _ _ _ h => And.right h) i w v h)) rfl (by omega) (by omega) (by omega) (by omega) (by omega) hML)
      (lbase (sExact6 (fun _ _ h => Rw.to (sz := 2) (n := ML.length) (F := (fun ι w v => NorV w v ((coef ML) ι) (3 + 3 + 20 + 1))) (h) (fun i w v _ h => (fun _ _ _ h => NorV.i h) i w v h)) (fun _ _ h => Rw.to (sz := 2) (n := Nb) (F := (fun ι w v => KI w v (ab ι) ((fun ι => (xsb ι).take 3) ι) (ezb ι) 3)) (h) (fun i w v _ h => (fun _ _ _ h => And.right h) i w v h)) rfl (by omega) (by omega) (by omega) (by omega) hY (by omega) hYl (by omega) hML' (by omega) hm2 (by omega) hc hc0 hdv hM2 hL20 hE2 hZm2)
      (lbase (sPMul (c := 20) (z := (coef QL)) (n := QL.length) (y := ezb) (m := Nb) (fun _ _ h => Rw.to (sz := 2) (n := QL.length) (F := (fun ι w v => NorV w v ((coef QL) ι) 120)) (h) (fun i w v _ h => (fun _ _ _ h => NorV.i h) i w v h)) (fun _ _ h => Rw.to (sz := 2) (n := Nb) (F := (fun ι w v => KI w v (ab ι) ((fun ι => (xsb ι).take 3) ι) (ezb ι) 3)) (h) (fun i w v _ h => (fun _ _ _ h => And.right h) i w v h)) rfl (by omega) (by omega) (by omega) (by omega) (by omega) hPL)
      (lbase (sAddP (z := (coef PL)) (n := PL.length) (y := (coef L2)) (m := L2.length) (fun _ _ h => Rw.to (sz := 2) (n := PL.length) (F := (fun ι w v => NorV w v ((coef PL) ι) (120 + 3 + 20 + 1))) (h) (fun i w v _ h => (fun _ _ _ h => NorV.i h) i w v h)) (fun _ _ h => Rw.to (sz := 2) (n := L2.length) (F := (fun ι w v => NorV w v ((coef L2) ι) 60)) (h) (fun i w v _ h => (fun _ _ _ h => NorV.i h) i w v h)) rfl (by omega) (by omega) (by omega) (by omega) hSL)
      (lbase (sSameT (z := (fun i => eza i * c ^ m)) (n := (if m = 0 then Na else tl eza Na)) (y := (coef SL)) (m := SL.length) (fun _ _ h => Rw.to (sz := 2) (n := (if m = 0 then Na else tl eza Na)) (F := (fun ι w v => IntV w v ((fun i => eza i * c ^ m) ι) 60)) (h) (fun i w v _ h => (fun _ _ _ h => h) i w v h)) (fun _ _ h => Rw.to (sz := 2) (n := SL.length) (F := (fun ι w v => NorV w v ((coef SL) ι) ((120 + 3 + 20 + 1) + 60 + 1))) (h) (fun i w v _ h => (fun _ _ _ h => NorV.i h) i w v h)) (by omega) (by omega) (by omega) (by omega) hE1)
      (lbase (qLen (sz := 2) (n := L2.length) (F := (fun ι w v => NorV w v ((coef L2) ι) 60)) Tryz.underlying23 (fun _ _ h => Rw.arr h) rfl)
      (lbase (qLen (sz := 4) (n := (trimL (mk Nb ezb)).length) (F := (fun ι w v => DecQ w v ((((coef (trimL (mk Nb ezb))) ι : Int) : Rat)) (3 + 2 + 2))) Tryz.underlying30 (fun _ _ h => Rw.arr h) rfl)
      (lbase (qMaxC (fun _ _ h => h) (by split <;> omega) rfl)
      (lbase (qTest (op := .lss) (fun _ _ h => h) (fun _ _ h => h) (ts_run (decide_eq_true (by omega)) (by simp)))
      (lbase (sSameT (z := (coef Z)) (n := Z.length) (y := eza) (m := Na) (fun _ _ h => Rw.to (sz := 2) (n := Z.length) (F := (fun ι w v => NorV w v ((coef Z) ι) 100)) (h) (fun i w v _ h => (fun _ _ _ h => NorV.i h) i w v h)) (fun _ _ h => Rw.to (sz := 2) (n := Na) (F := (fun ι w v => KI w v (aa ι) ((fun ι => (xsa ι).take 3) ι) (eza ι) 3)) (h) (fun i w v _ h => (fun _ _ _ h => And.right h) i w v h)) (by omega) (by omega) (by omega) (by omega) hE2x)
      (lbase (sWakes6)
      lnil)))))))))))))))))
    (ins_ok [.fact 0 (.one (.s)), .fact 1 (.one (.s))] ⟨fun _ _ h => Rw.is (sz := 2) (F := (fun ι w v => RawI w v (aa ι) (xsa ι))) (n := ma) h, fun _ _ h => Rw.is (sz := 2) (F := (fun ι w v => RawI w v (ab ι) (xsb ι))) (n := mb) h, trivial⟩) (fun _ _ _ h => h)

theorem walk {ma mb : Nat} {aa ab : Nat → Bool} {xsa xsb : Nat → List Nat} {w : World} {va vb : Value} (hna : ma ≤ 9223372036854775807) (hla : Rw 2 (fun i w v => RawI w v (aa i) (xsa i)) ma w va) (hnb : mb ≤ 9223372036854775807) (hlb : Rw 2 (fun i w v => RawI w v (ab i) (xsb i)) mb w vb) : Calls Tryz.prog 8 #[va, vb] w (Bool_ w true) := by
  obtain ⟨eza, hza⟩ : ∃ ez : Nat → Int, ∀ j, sg (aa j) (Proofs.YtigkehblnlghkaaGreat.val 4294967296 ((xsa j).take 3)) = ez j := ⟨_, fun _ => rfl⟩
  obtain ⟨Na, hNna⟩ : ∃ N, min ma 10 = N := ⟨_, rfl⟩
  obtain ⟨ezb, hzb⟩ : ∃ ez : Nat → Int, ∀ j, sg (ab j) (Proofs.YtigkehblnlghkaaGreat.val 4294967296 ((xsb j).take 3)) = ez j := ⟨_, fun _ => rfl⟩
  obtain ⟨Nb, hNnb⟩ : ∃ N, min mb 7 = N := ⟨_, rfl⟩
  have hba : ∀ i, i < Na → Bd (eza i).natAbs 3 := fun i hi => by
    obtain ⟨p, c, rfl, _, h1⟩ := hla
    obtain ⟨_, _, _, l, _, _, s, _, _, h2⟩ := h1 i (by omega)
    rw [← hza i, sg_abs]
    exact Bd.row _ h2 3
  have hbb : ∀ i, i < Nb → Bd (ezb i).natAbs 3 := fun i hi => by
    obtain ⟨p, c, rfl, _, h1⟩ := hlb
    obtain ⟨_, _, _, l, _, _, s, _, _, h2⟩ := h1 i (by omega)
    rw [← hzb i, sg_abs]
    exact Bd.row _ h2 3
  rcases Nat.eq_zero_or_pos (tl ezb Nb) with h0 | h0
  · exact law_true (path_0 hna hza hNna hnb hzb hNnb (by rw [trimL_mk]; exact h0)) (vs := [va, vb]) ⟨arg_poly hla, arg_poly hlb, trivial⟩
  obtain ⟨nb, hnb1⟩ : ∃ nb, tl ezb Nb = nb + 1 := ⟨tl ezb Nb - 1, by omega⟩
  obtain ⟨Y, hY⟩ : ∃ L, trimL (mk Nb ezb) = L := ⟨_, rfl⟩
  obtain ⟨Z, hZ⟩ : ∃ L, trimL (mk Na eza) = L := ⟨_, rfl⟩
  obtain ⟨m, hm⟩ : ∃ m, m = Z.length - nb := ⟨_, rfl⟩
  obtain ⟨c, hcb⟩ : ∃ c, ldZ ezb Nb = c := ⟨_, rfl⟩
  obtain ⟨ML, hML⟩ : ∃ L, mulL eza Na ezb Nb = L := ⟨_, rfl⟩
  have hYl : Y.length = nb + 1 := by rw [← hY, trimL_mk, hnb1]
  have hZl : Z.length = tl eza Na := by rw [← hZ, trimL_mk]
  have hlea := tl_le eza Na
  have hleb := tl_le ezb Nb
  have hYu : ∀ i, coef Y i = upto Nb ezb i := fun i => by rw [← hY, coef_tm]
  have hZu : ∀ i, coef Z i = upto Na eza i := fun i => by rw [← hZ, coef_tm]
  have hce : c = ezb nb := by rw [← hcb, ldZ, if_neg (by omega), hnb1, Nat.add_sub_cancel]
  have hc0 : c ≠ 0 := by
    have := tl_last ezb Nb (by omega)
    rw [hnb1, Nat.add_sub_cancel] at this
    rw [hce]; exact this
  have hYt : coef Y nb = c := by rw [hYu, upto_lt (by omega), hce]
  have hY0 : ∀ i, nb < i → coef Y i = 0 := fun i hi => coef_out (by omega)
  have hZ0 : ∀ i, Z.length ≤ i → coef Z i = 0 := fun i hi => coef_out hi
  have hc : ldZ (coef Y) (nb + 1) = c := by
    have : tl (coef Y) (nb + 1) = nb + 1 := by
      unfold tl
      rw [if_neg (by rw [hYt]; exact hc0)]
    rw [ldZ, this, if_neg (by omega), Nat.add_sub_cancel, hYt]
  have hbc : Bd c.natAbs 3 := hce ▸ hbb nb (by omega)
  have hbZ := coef_bd hZ hba
  have hbY := coef_bd hY hbb
  have hpj : ∀ j, j ≤ 10 → Bd (c ^ j).natAbs 31 := fun j hj => by
    rw [Int.natAbs_pow]
    exact (Bd.powD hbc j).more (by omega)
  have hred := red_bd (n := nb) (m := m) (K := 60) hbZ hbY hbc (by omega)
  have hMLc : coef ML = conv (coef Z) (coef Y) := funext fun p => by
    rw [← hML, coef_mul]
    exact conv_congr (fun i _ => (hZu i).symm) (fun i _ => (hYu i).symm)
  have hMLl : ML.length - nb = Z.length ∧ ML.length ≤ 17 := by
    rcases Nat.eq_zero_or_pos (tl eza Na) with h | h
    · have : ML = [] := by rw [← hML, mulL, if_pos (.inl h)]
      rw [this, hZl, h]; exact ⟨by simp, by simp⟩
    · rw [← hML, mulL_length h h0]; omega
  have hbM : ∀ p, Bd (coef ML p).natAbs 30 := fun p => by
    rw [← hML]; exact (mulL_bdD hba hbb p).more (by omega)
  have hex := fun (j : Nat) (hj : j ≤ Z.length) => ex_all (q := coef Z) (y := coef Y) (n := nb) (m := Z.length) (c := c) hYt hY0 hc0 hZ0 hj
  have hexb := ex_bd (n := nb) (m := Z.length) (c := c) hbM hbY
  have hm2 : Z.length = ML.length - nb := hMLl.1.symm
  have hTT : ∀ p, p < m → (dto m m (rdT (coef Z) (coef Y) nb m c)) p = rdT (coef Z) (coef Y) nb m c p := fun p hp => by rw [dto, if_pos ⟨by omega, hp⟩]
  obtain ⟨L2, hL2⟩ : ∃ L, trimL (mk (min nb Z.length) (rdA (coef Z) (coef Y) nb m c m)) = L := ⟨_, rfl⟩
  obtain ⟨QL, hQL⟩ : ∃ L, mk m (fun p => (dto m m (rdT (coef Z) (coef Y) nb m c)) p * c ^ p) = L := ⟨_, rfl⟩
  obtain ⟨PL, hPL⟩ : ∃ L, mulL (coef QL) QL.length ezb Nb = L := ⟨_, rfl⟩
  obtain ⟨SL, hSL⟩ : ∃ L, trimL (mk (max PL.length L2.length) (fun i => upto PL.length (coef PL) i + upto L2.length (coef L2) i)) = L := ⟨_, rfl⟩
  have hQLl : QL.length = m := by rw [← hQL, mk_length]
  have hL2l : L2.length ≤ nb := by
    rw [← hL2, trimL_mk]
    exact Nat.le_trans (tl_le _ _) (Nat.min_le_left _ _)
  have hPLl : PL.length ≤ 17 := by
    rw [← hPL]
    exact Nat.le_trans (mulL_le _ _ _ _) (by omega)
  have hSLl : SL.length ≤ 17 := by
    rw [← hSL, trimL_mk]
    exact Nat.le_trans (tl_le _ _) (by omega)
  have hrT : ∀ p, p < m → Bd (rdT (coef Z) (coef Y) nb m c p).natAbs 60 := fun p hp => by
    have := hred.1 (m - 1 - p) (p + nb) (by omega)
    rw [rA1, show m - 1 - (m - 1 - p) = p by omega] at this
    exact this
  have hkey : ∀ p, coef Z p * c ^ m = coef SL p := fun p => by
    rw [rd_all (z := coef Z) (y := coef Y) (n := nb) (m := m) hYt hY0 (fun i hi => hZ0 i (by omega)) p, ← hSL, coef_add, upto_coef, upto_coef, ← hPL, coef_mul]
    congr 1
    · refine conv_congr (fun i _ => ?_) (fun i _ => hYu i)
      rw [upto_coef, ← hQL, coef_mk]
      split
      · rw [hTT i (by assumption)]
      · rfl
    · rw [← hL2, coef_tm]
      unfold upto
      by_cases h1 : p < min nb Z.length
      · rw [if_pos (by omega), if_pos h1]
      · rw [if_neg h1]
        split
        · have : m = 0 := by omega
          rw [this]
          exact hZ0 p (by omega)
        · rfl
  refine law_true (path_1 (m2 := Z.length) hna hza hNna hnb hzb hNnb (by rw [hY]; exact hYl) hY hYl (by omega) hZ (by omega) hm hc hcb hc0 (fun j hj => (hpj j (by omega)).more (by omega)) hred.1 hred.2 hL2 ?_ hQL hML ?_ hMLl.2 hm2 ?_ ?_ ?_ ?_ rfl hPL hSL (by omega) hPLl hL2l hSLl ?_ ?_ ?_) (vs := [va, vb]) ⟨arg_poly hla, arg_poly hlb, trivial⟩
  · intro j hj
    rw [psQ, if_pos (by omega), hTT j hj, Int.natAbs_mul]
    exact (Bd.mul (hrT j hj) (hpj j (by omega))).more (by omega)
  · have : mk ML.length (coef ML) = ML := by
      apply List.ext_getElem (by rw [mk_length])
      intro i h1 h2
      simp [mk, coef, List.getD_eq_getElem?_getD, List.getElem?_eq_getElem h2]
    rw [this]
    exact trimL_of (hML ▸ mulL_nrm _ _ _ _)
  · intro j hj
    rw [hMLc, (hex j (Nat.le_of_lt hj)).2 hj]
    exact Int.dvd_mul_left _ _
  · intro j i p hj
    refine ((hexb j).2 i p).more ?_
    have : (j + 1) * (3 + 1) ≤ 10 * (3 + 1) := Nat.mul_le_mul_right _ (by omega)
    omega
  · refine List.eq_nil_of_length_eq_zero ?_
    rw [trimL_mk]
    refine tl_none fun i hi => ?_
    rw [hMLc, (hex _ (Nat.le_refl _)).1 i (by omega), Nat.sub_self]
    exact conv_zeroL (fun i => upto_out (by omega)) i
  · intro i hi
    rw [dto, if_pos ⟨by omega, hi⟩, exT, hMLc]
    have := (hex (Z.length - 1 - i) (by omega)).2 (by omega)
    rw [show Z.length - 1 - (Z.length - 1 - i) = i by omega] at this
    rw [this, Int.mul_ediv_cancel _ hc0]
  · intro j hj
    have hn : ∀ i, coef (trimL (mk (if j = 0 then Na else tl eza Na) (fun i => eza i * c ^ j * c))) i = upto Na eza i * c ^ (j + 1) := fun i => by
      rw [coef_tm]
      unfold upto
      by_cases h1 : i < tl eza Na
      · rw [if_pos (by split <;> omega), if_pos (by omega), Int.pow_succ, ← Int.mul_assoc]
      · by_cases h2 : i < Na
        · have := tl_zero eza Na i (by omega) h2
          rw [if_pos h2, this]
          split <;> simp [this]
        · rw [if_neg (by split <;> omega), if_neg h2, Int.zero_mul]
    have hlen : (trimL (mk (if j = 0 then Na else tl eza Na) (fun i => eza i * c ^ j * c))).length = tl eza Na := by
      rw [trimL_mk]
      rcases Nat.eq_zero_or_pos (tl eza Na) with h | h
      · rw [h]
        refine tl_none fun i hi => ?_
        have : eza i = 0 := by
          by_cases h2 : j = 0
          · rw [if_pos h2] at hi
            exact tl_zero eza Na i (by omega) hi
          · rw [if_neg h2] at hi; omega
        rw [this]; simp
      · exact tl_same (by split <;> simp) fun i hi => by
          show eza i * c ^ j * c = 0 ↔ eza i = 0
          constructor
          · intro e
            rcases Int.mul_eq_zero.1 e with e | e
            · rcases Int.mul_eq_zero.1 e with e | e
              · exact e
              · exact absurd e (Int.pow_ne_zero hc0)
            · exact absurd e hc0
          · intro e; rw [e]; simp
    refine ⟨by rw [hlen, if_neg (by omega)], fun i hi => ?_⟩
    rw [if_neg (by omega)] at hi
    refine ⟨by rw [hn i, upto_lt (by omega)], ?_⟩
    rw [Int.natAbs_mul]
    exact (Bd.mul (hba i (by omega)) (hpj (j + 1) (by omega))).more (by omega)
  · intro i
    rw [upto_coef, ← hkey i, hZu]
    unfold upto
    by_cases h1 : i < tl eza Na
    · rw [if_pos (by split <;> omega), if_pos (by omega)]
    · by_cases h2 : i < Na
      · have := tl_zero eza Na i (by omega) h2
        rw [if_pos h2, this]
        split <;> simp [this]
      · rw [if_neg (by split <;> omega), if_neg h2, Int.zero_mul]
  · intro i
    rw [upto_coef, hZu]
set_option maxRecDepth 100000 in
theorem lifted (os : Os) (started : os.Started) (H : Type) (enc : TypeId × Value → H) :
    ReturnsInHanded {} Tryz.checked os 8 .any (Rows.pdivBackSpec.pre6 enc Tryz.prog Tryz.f8 Rows.pdivBackRow.domain false) (Rows.pdivBackSpec.post enc Tryz.prog Tryz.f8 false true false false) := by
  refine returnsInHanded_of_change (C := Tryz.checked) Tryz.own started (by kernel_rfl) Tryz.func8
    (ChangeSpec.witness6 (enc := enc) (C := Tryz.checked) false ⟨#[], #[.slice none 0 0, .slice none 0 0], []⟩ 8 (by kernel_rfl) (by kernel_rfl) (by kernel_rfl) (by kernel_rfl)) ?_
  intro W base args ds gs before hval0 hW _ _
  have hval : ∀ (j : Nat) t v, Tryz.f8.params[j]? = some t → args[j]? = some v → Value.okWide Tryz.prog W .any base t v := hval0
  obtain ⟨p, q, hA0, hV, rfl, _, _⟩ := id hW
  have hA : DataW.TrodAll enc Tryz.prog W 0 (fun _ => true) true Tryz.f8.params.toList args.toList ds p := hA0
  rw [Tryz.params8] at hA hval
  obtain ⟨v0, vs0, d0, ds0, p0, q0, hargs, rfl, rfl, h0, r0⟩ := trodAll_cons hA
  obtain ⟨v1, vs1, d1, ds1, p1, q1, rfl, rfl, rfl, h1, r1⟩ := trodAll_cons r0
  obtain ⟨rfl, rfl, rfl⟩ := trodAll_nil r1
  obtain rfl : args = #[v0, v1] := by cases args; simp_all
  obtain ⟨n0, a0, xs0, l0, s0⟩ := poly_of_trod h0 (hval 0 23 v0 rfl rfl)
  obtain ⟨n1, a1, xs1, l1, s1⟩ := poly_of_trod h1 (hval 1 23 v1 rfl rfl)
  refine (walk l0 s0 l1 s1).mono fun e W' ⟨he, hg⟩ => ?_
  subst he
  refine ⟨_, rfl, law_post Tryz.laidOut rfl (by kernel_rfl) Tryz.underlying4 ?_ ?_ hW hg⟩
  · rw [Tryz.params8]; decide +kernel
  · rw [Tryz.params8]
    intro ds h
    match ds, h with
    | [_, _], _ => rfl

theorem holds : Rows.PdivBackSaid :=
  OpenClaim.holds_of_wide 8 Tryz.f8 rfl rfl rfl rfl rfl rfl rfl ⟨rfl, rfl, rfl, rfl, rfl⟩ rfl rfl rfl rfl rfl (by kernel_rfl) Tryz.func8 (by kernel_rfl)
    (of_decide_eq_true (by kernel_rfl)) (by unfold Func.isWrapper; first | (rw [if_pos (by decide +kernel)]; kernel_rfl) | (rw [if_neg (by decide +kernel)]; exact ⟨rfl, rfl⟩))
    (fun os started H enc _ => lifted os started H enc)

end Go.Proofs.YtigkehblnlghkaaGreat.vback
