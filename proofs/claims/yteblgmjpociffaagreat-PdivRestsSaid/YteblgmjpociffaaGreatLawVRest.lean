/- PdivRests holds: for every two polynomials the law returns true and leaves them as they were. No condition. -/
import Derived.Test.YteblgmjpociffaaGreatDivW
import Derived.Test.YteblgmjpociffaaGreatPolQ
import Derived.Test.YteblgmjpociffaaGreatDivZ
namespace Go.Proofs.YteblgmjpociffaaGreat.vrests
open Go.ChangeShapes Go.WideShapes Go.ChangeAt Go.RowKit
open Go.Proofs.YteblgmjpociffaaGreat.Sym hiding val run start

section
variable {P : Program} {Φ : Nat → World → Value → Prop}
theorem qLenNil {T e : TypeId} (hT : P.underlying T = some (.slice e)) : SiteOk Φ P ⟨0, [.lit .nl], [⟨.one (.lit (.ci .i64 0)), []⟩], .quiet (mLen T)⟩ := fun X w ac o xs _ hm ha => by
  unfold mLen at hm
  split at hm
  case h_2 => cases hm
  rename_i args ts ho
  split at hm
  case isFalse => cases hm
  rename_i hts
  subst hts
  simp only [Option.some.injEq] at hm
  subst hm
  match hl : args.toList, ha with
  | [y], ha =>
    have hv : ac.eval y = .slice none 0 0 := ha.1
    have hargs : args = #[y] := by apply Array.ext'; simpa using hl
    subst hargs
    refine ⟨.int .i64 0, w, ?_, grown_refl w none, ⟨⟨⟨rfl, fun _ h => by cases h⟩, fun r hr => by cases hr⟩, trivial⟩⟩
    unfold execOp
    simp [ho, resolve, invoke, builtin, Builtin.len_, run_underlying hT, hv, goInt]
end
/-- What reduce leaves; what Rest answers. -/
def rsL (Z P : List Int) (nb : Nat) (c : Int) : List Int := trimL (mk (min nb Z.length) (rdA (coef Z) (coef P) nb (Z.length - nb) c (Z.length - nb)))
def rstL (Z P : List Int) (nb : Nat) (c : Int) : List Int := dvL (coef (rsL Z P nb c)) (rsL Z P nb c).length (gcdZ (coef (rsL Z P nb c)) (rsL Z P nb c).length : Int)
section
variable {Φ : Nat → World → Value → Prop} {p q x n0 n1 k k1 nb kz kp K : Nat} {z0 z1 : Nat → Int} {c : Int} {Z P R : List Int}
theorem sRest (hp : ∀ w v, Φ p w v → Rw 2 (fun i w v => IntV w v (z0 i) k) n0 w v) (hq : ∀ w v, Φ q w v → Rw 2 (fun i w v => IntV w v (z1 i) k1) n1 w v) (hx : Φ x = fun w v => Rw 2 (fun i w v => NorV w v (coef R i) K) R.length w v)
    (hn0 : n0 ≤ 1000000) (hn1 : n1 ≤ 900000) (hk : k ≤ 90000) (hk1 : k1 ≤ 90000) (hkK : k ≤ K) (hP : dvL z1 n1 (pcon z1 n1) = P) (hPl : P.length = nb + 1) (hnb : nb ≤ 800000) (hZ : trimL (mk n0 z0) = Z) (hZl : Z.length ≤ 100) (hc : ldZ (coef P) (nb + 1) = c) (hbZ : ∀ i, Bd (coef Z i).natAbs kz) (hbP : ∀ i, Bd (coef P i).natAbs kp) (hbc : Bd c.natAbs kp) (hK : kz + 1 + (Z.length - nb) * (kp + 1) ≤ K) (hK2 : K ≤ 90000 ∧ kp ≤ 900) (hR : rstL Z P nb c = R) :
    SiteOk Φ Tryz.prog ⟨43, [.fact p, .fact q], [⟨.one .s, [(0, 0, x)]⟩, ⟨.one (.lit (.ci .i64 0)), []⟩], true⟩ := by
  have hb := red_bd (n := nb) (m := Z.length - nb) (K := K) hbZ hbP hbc hK
  have hl : (rsL Z P nb c).length ≤ 100 := by
    rw [rsL, trimL_mk]
    exact Nat.le_trans (tl_le _ _) (by omega)
  have hkp : ∀ j, j ≤ Z.length - nb → Bd (c ^ j).natAbs 90001 := fun j hj => by
    rw [Int.natAbs_pow]
    refine (Bd.powD hbc j).more ?_
    have : j * kp ≤ 100 * 900 := Nat.mul_le_mul (by omega) (by omega)
    omega
  exact viaG (prest hn0 hn1 hk hk1 hkK hP hPl hnb hZ (by omega) rfl (by omega) (by omega) hc hkp hb.1 hb.2 rfl (by show (rsL Z P nb c).length ≤ _; omega) hR) ⟨hp, hq, trivial⟩ ⟨⟨rfl, ⟨rfl, rfl, fun _ _ h => hx ▸ h⟩, trivial⟩, ⟨rfl, trivial⟩, trivial⟩
end
section
variable {Φ : Nat → World → Value → Prop} {p q x r n n0 M nv kz ky kx kb K k k1 n1 : Nat} {z y z0 z1 : Nat → Int} {P : List Int}
theorem sRest0 (hp : ∀ w v, Φ p w v → Rw 2 (fun i w v => IntV w v (z0 i) k) n0 w v) (hq : ∀ w v, Φ q w v → Rw 2 (fun i w v => IntV w v (z1 i) k1) n1 w v) (hn1 : n1 ≤ 900000) (hk1 : k1 ≤ 90000) (hP : (dvL z1 n1 (pcon z1 n1)).length = 0) :
    SiteOk Φ Tryz.prog ⟨43, [.fact p, .fact q], [⟨.one (.lit .nl), []⟩, ⟨.one (.lit (.ci .i64 2)), []⟩], true⟩ :=
  viaG (prest_0 (z0 := z0) (n0 := n0) (k := k) hn1 hk1 rfl hP) ⟨hp, hq, trivial⟩ ⟨⟨rfl, trivial⟩, ⟨rfl, trivial⟩, trivial⟩
theorem sDModV (hp : ∀ w v, Φ p w v → Rw 4 (fun i w v => DecQ w v ((z i : Int) : Rat) kx) n0 w v) (hq : ∀ w v, Φ q w v → Rw 4 (fun i w v => DecQ w v ((y i : Int) : Rat) kb) (n + 1) w v)
    (hx : Φ x = fun _ _ => True) (hr : Φ r = fun w v => Rw 4 (fun i w v => DecQ w v (rq (fun i => ((z i : Int) : Rat)) (fun i => ((y i : Int) : Rat)) n M M i) K) nv w v) (hM : n0 - n = M) (hnv : tl (fun i => (rq (fun i => ((z i : Int) : Rat)) (fun i => ((y i : Int) : Rat)) n M M i).num) n = nv)
    (hn : n ≤ 900) (hn0 : n0 ≤ 1000) (hkx : kx ≤ K) (hkb : kb ≤ 1000) (hK : K ≤ 1000) (hbz : ∀ i, Bd (z i).natAbs kz) (hby : ∀ i, Bd (y i).natAbs ky) (hKb : kz + (n0 - n + 1) * (ky + 1) ≤ K) (hz0 : ∀ i, n0 ≤ i → z i = 0) (hzt : 0 < n0 → z (n0 - 1) ≠ 0) (hy0 : ∀ i, n < i → y i = 0) (hyt : y n ≠ 0) :
    SiteOk Φ Tryz.prog ⟨39, [.fact p, .fact q], [⟨.one .s, [(0, 0, x)]⟩, ⟨.one .s, [(0, 0, r)]⟩], true⟩ := by
  subst hM
  exact viaG (sDMod (Φ := ph [fun w v => Rw 4 (fun i w v => DecQ w v ((z i : Int) : Rat) kx) n0 w v, fun w v => Rw 4 (fun i w v => DecQ w v ((y i : Int) : Rat) kb) (n + 1) w v, fun w v => Rw 4 (fun i w v => DecQ w v (rqQ (fun i => ((z i : Int) : Rat)) (fun i => ((y i : Int) : Rat)) n (n0 - n) i) K) (tl (fun i => (rqQ (fun i => ((z i : Int) : Rat)) (fun i => ((y i : Int) : Rat)) n (n0 - n) i).num) (n0 - n)) w v, fun w v => Rw 4 (fun i w v => DecQ w v (rq (fun i => ((z i : Int) : Rat)) (fun i => ((y i : Int) : Rat)) n (n0 - n) (n0 - n) i) K) (tl (fun i => (rq (fun i => ((z i : Int) : Rat)) (fun i => ((y i : Int) : Rat)) n (n0 - n) (n0 - n) i).num) n) w v]) (p := 0) (q := 1) (x := 2) (r := 3) (fun _ _ h => h) (fun _ _ h => h) rfl rfl rfl rfl hn hn0 hkx hkb hK hbz hby hKb hz0 hzt hy0 hyt)
    ⟨hp, hq, trivial⟩ ⟨⟨rfl, ⟨rfl, rfl, fun _ _ _ => hx ▸ trivial⟩, trivial⟩, ⟨rfl, ⟨rfl, rfl, fun w v h => by
      have h : Rw 4 (fun i w v => DecQ w v (rq (fun i => ((z i : Int) : Rat)) (fun i => ((y i : Int) : Rat)) n (n0 - n) (n0 - n) i) K) (tl (fun i => (rq (fun i => ((z i : Int) : Rat)) (fun i => ((y i : Int) : Rat)) n (n0 - n) (n0 - n) i).num) n) w v := h
      rw [hr]; exact Rw.len h hnv⟩, trivial⟩, trivial⟩
end
def b_path_0 (aa ab : Nat → Bool) (xsa xsb : Nat → List Nat) (eza ezb : Nat → Int) (ma mb Na Nb : Nat) : List (World → Value → Prop) := [fun w v => Rw 2 (fun ι w v => RawI w v (aa ι) (xsa ι)) ma w v, fun w v => Rw 2 (fun ι w v => RawI w v (ab ι) (xsb ι)) mb w v, fun w v => Rw 2 (fun ι w v => KI w v (aa ι) ((fun ι => (xsa ι).take 2) ι) (eza ι) 2) Na w v, fun w v => Rw 4 (fun ι w v => DecQ w v ((((coef (trimL (mk Na eza))) ι : Int) : Rat)) (2 + 2 + 2)) ((trimL (mk Na eza)).length) w v, fun w v => Rw 2 (fun ι w v => KI w v (ab ι) ((fun ι => (xsb ι).take 2) ι) (ezb ι) 2) Nb w v, fun w v => Rw 4 (fun ι w v => DecQ w v ((((coef (trimL (mk Nb ezb))) ι : Int) : Rat)) (2 + 2 + 2)) ((trimL (mk Nb ezb)).length) w v, fun _ v => v = .int .i64 (((trimL (mk Nb ezb)).length : Nat) : Int)]
def ss_path_0 : List Step := [.base ⟨11, [.fact 0, .lit (.ci .i64 8), .lit (.ci .i64 2)], [⟨.one (.s), [(0, 0, 2)]⟩, ⟨.one (.s), [(0, 0, 3)]⟩], true⟩,
      .base ⟨11, [.fact 1, .lit (.ci .i64 6), .lit (.ci .i64 2)], [⟨.one (.s), [(0, 0, 4)]⟩, ⟨.one (.s), [(0, 0, 5)]⟩], true⟩,
      .base ⟨43, [.fact 2, .fact 4], [⟨.one (.lit (.nl)), []⟩, ⟨.one (.lit (.ci .i64 2)), []⟩], true⟩,
      .base ⟨0, [.fact 5], [⟨.one (.i), [(0, 0, 6)]⟩], .quiet (mLen 30)⟩,
      .base ⟨0, [.fact 6, .lit (.ci .i64 0)], [⟨.one (.lit (.cb true)), []⟩], .quiet (mBin .eql)⟩,
      .base ⟨0, [.lit .nl], [⟨.one (.lit (.ci .i64 0)), []⟩], .quiet (mLen 23)⟩,
      .base ⟨37, [], [⟨.one (.lit (.cb true)), []⟩], false⟩]
def ins_path_0 : List Out := [⟨.one (.s), [(0, 0, 0)]⟩, ⟨.one (.s), [(0, 0, 1)]⟩]
set_option maxHeartbeats 1000000 in
set_option maxRecDepth 100000 in
theorem path_0 {aa ab : Nat → Bool} {xsa xsb : Nat → List Nat} {eza ezb : Nat → Int} {ma mb Na Nb : Nat} (hna : ma ≤ 9223372036854775807) (hza : ∀ j, sg (aa j) (Proofs.YteblgmjpociffaaGreat.val 4294967296 ((xsa j).take 2)) = eza j) (hNna : min ma 8 = Na) (hnb : mb ≤ 9223372036854775807) (hzb : ∀ j, sg (ab j) (Proofs.YteblgmjpociffaaGreat.val 4294967296 ((xsb j).take 2)) = ezb j) (hNnb : min mb 6 = Nb) (h0 : (trimL (mk Nb ezb)).length = 0) (hP0 : (dvL ezb Nb (pcon ezb Nb)).length = 0) : SiteOk (ph (b_path_0 aa ab xsa xsb eza ezb ma mb Na Nb)) Tryz.prog ⟨7, [.fact 0, .fact 1], [⟨.one (.lit (.cb true)), []⟩], false⟩ := by
  skip
  exact fn_okL ins_path_0 [⟨.one (.lit (.cb true)), []⟩] ss_path_0 Tryz.func7 (by kernel_rfl)
    (lbase (sCut5 8 2 rfl rfl (fun _ _ h => h) rfl rfl (by omega) (by omega) (by omega) hza hNna)
      (lbase (sCut5 6 2 rfl rfl (fun _ _ h => h) rfl rfl (by omega) (by omega) (by omega) hzb hNnb)
      (lbase (sRest0 (fun _ _ h => Rw.to (sz := 2) (n := Na) (F := (fun ι w v => KI w v (aa ι) ((fun ι => (xsa ι).take 2) ι) (eza ι) 2)) (h) (fun i w v _ h => (fun _ _ _ h => And.right h) i w v h)) (fun _ _ h => Rw.to (sz := 2) (n := Nb) (F := (fun ι w v => KI w v (ab ι) ((fun ι => (xsb ι).take 2) ι) (ezb ι) 2)) (h) (fun i w v _ h => (fun _ _ _ h => And.right h) i w v h)) (by omega) (by omega) hP0)
      (lbase (qLen (sz := 4) (n := (trimL (mk Nb ezb)).length) (F := (fun ι w v => DecQ w v ((((coef (trimL (mk Nb ezb))) ι : Int) : Rat)) (2 + 2 + 2))) Tryz.underlying30 (fun _ _ h => Rw.arr h) rfl)
      (lbase (qTestC (op := .eql) (fun _ _ h => h) (ts_run (decide_eq_true (by omega)) (by simp)))
      (lbase (qLenNil Tryz.underlying23)
      (lbase (sWakes6)
      lnil)))))))
    (ins_ok [.fact 0 (.one (.s)), .fact 1 (.one (.s))] ⟨fun _ _ h => Rw.is (sz := 2) (F := (fun ι w v => RawI w v (aa ι) (xsa ι))) (n := ma) h, fun _ _ h => Rw.is (sz := 2) (F := (fun ι w v => RawI w v (ab ι) (xsb ι))) (n := mb) h, trivial⟩) (fun _ _ _ h => h)

def b_path_1 (aa ab : Nat → Bool) (xsa xsb : Nat → List Nat) (eza ezb : Nat → Int) (ma mb Na Nb nb nv M : Nat) (R : List Int) : List (World → Value → Prop) := [fun w v => Rw 2 (fun ι w v => RawI w v (aa ι) (xsa ι)) ma w v, fun w v => Rw 2 (fun ι w v => RawI w v (ab ι) (xsb ι)) mb w v, fun w v => Rw 2 (fun ι w v => KI w v (aa ι) ((fun ι => (xsa ι).take 2) ι) (eza ι) 2) Na w v, fun w v => Rw 4 (fun ι w v => DecQ w v ((((coef (trimL (mk Na eza))) ι : Int) : Rat)) (2 + 2 + 2)) ((trimL (mk Na eza)).length) w v, fun w v => Rw 2 (fun ι w v => KI w v (ab ι) ((fun ι => (xsb ι).take 2) ι) (ezb ι) 2) Nb w v, fun w v => Rw 4 (fun ι w v => DecQ w v ((((coef (trimL (mk Nb ezb))) ι : Int) : Rat)) (2 + 2 + 2)) ((trimL (mk Nb ezb)).length) w v, fun w v => Rw 2 (fun ι w v => NorV w v ((coef R) ι) 60) R.length w v, fun _ v => v = .int .i64 (((trimL (mk Nb ezb)).length : Nat) : Int), fun _ _ => True, fun w v => Rw 4 (fun ι w v => DecQ w v ((rq (fun i => ((coef (trimL (mk Na eza)) i : Int) : Rat)) (fun i => ((coef (trimL (mk Nb ezb)) i : Int) : Rat)) nb M M ι)) 200) nv w v, fun w v => Rw 4 (fun ι w v => DecQ w v ((((coef R) ι : Int) : Rat)) 60) R.length w v]
def ss_path_1 : List Step := [.base ⟨11, [.fact 0, .lit (.ci .i64 8), .lit (.ci .i64 2)], [⟨.one (.s), [(0, 0, 2)]⟩, ⟨.one (.s), [(0, 0, 3)]⟩], true⟩,
      .base ⟨11, [.fact 1, .lit (.ci .i64 6), .lit (.ci .i64 2)], [⟨.one (.s), [(0, 0, 4)]⟩, ⟨.one (.s), [(0, 0, 5)]⟩], true⟩,
      .base ⟨43, [.fact 2, .fact 4], [⟨.one (.s), [(0, 0, 6)]⟩, ⟨.one (.lit (.ci .i64 0)), []⟩], true⟩,
      .base ⟨0, [.fact 5], [⟨.one (.i), [(0, 0, 7)]⟩], .quiet (mLen 30)⟩,
      .base ⟨0, [.fact 7, .lit (.ci .i64 0)], [⟨.one (.lit (.cb false)), []⟩], .quiet (mBin .eql)⟩,
      .base ⟨39, [.fact 3, .fact 5], [⟨.one (.s), [(0, 0, 8)]⟩, ⟨.one (.s), [(0, 0, 9)]⟩], true⟩,
      .base ⟨44, [.fact 9], [⟨.one (.s), [(0, 0, 10)]⟩], false⟩,
      .base ⟨35, [.fact 10, .fact 6], [⟨.one (.lit (.cb true)), []⟩], false⟩,
      .base ⟨37, [], [⟨.one (.lit (.cb true)), []⟩], false⟩]
def ins_path_1 : List Out := [⟨.one (.s), [(0, 0, 0)]⟩, ⟨.one (.s), [(0, 0, 1)]⟩]
set_option maxHeartbeats 1000000 in
set_option maxRecDepth 100000 in
theorem path_1 {aa ab : Nat → Bool} {xsa xsb : Nat → List Nat} {eza ezb : Nat → Int} {ma mb Na Nb nb nv M : Nat} {c : Int} {P Z R RS : List Int} (hna : ma ≤ 9223372036854775807) (hza : ∀ j, sg (aa j) (Proofs.YteblgmjpociffaaGreat.val 4294967296 ((xsa j).take 2)) = eza j) (hNna : min ma 8 = Na) (hnb : mb ≤ 9223372036854775807) (hzb : ∀ j, sg (ab j) (Proofs.YteblgmjpociffaaGreat.val 4294967296 ((xsb j).take 2)) = ezb j) (hNnb : min mb 6 = Nb) (h0 : (trimL (mk Nb ezb)).length = nb + 1) (hnb : nb ≤ 5) (hP : dvL ezb Nb (pcon ezb Nb) = P) (hPl : P.length = nb + 1) (hc : ldZ (coef P) (nb + 1) = c) (hbP : ∀ i, Bd (coef P i).natAbs 2) (hbc : Bd c.natAbs 2)
    (hZ : trimL (mk Na eza) = Z) (hZl : Z.length ≤ 8) (hZa : (trimL (mk Na eza)).length = Z.length) (hbZ : ∀ i, Bd (coef Z i).natAbs 2) (hR : rstL Z P nb c = R) (hRl : R.length ≤ 8)
    (hM : (trimL (mk Na eza)).length - nb = M) (hnv : tl (fun i => (rq (fun i => ((coef (trimL (mk Na eza)) i : Int) : Rat)) (fun i => ((coef (trimL (mk Nb ezb)) i : Int) : Rat)) nb M M i).num) nb = nv) (hnvl : nv ≤ nb) (hzB : ∀ i, Bd (coef (trimL (mk Na eza)) i).natAbs 2) (hyB : ∀ i, Bd (coef (trimL (mk Nb ezb)) i).natAbs 2) (hzt : 0 < (trimL (mk Na eza)).length → coef (trimL (mk Na eza)) ((trimL (mk Na eza)).length - 1) ≠ 0) (hy0 : ∀ i, nb < i → coef (trimL (mk Nb ezb)) i = 0) (hyt : coef (trimL (mk Nb ezb)) nb ≠ 0)
    (hC : 0 < c ^ M) (hRq : ∀ i, i < nv → (rq (fun i => ((coef (trimL (mk Na eza)) i : Int) : Rat)) (fun i => ((coef (trimL (mk Nb ezb)) i : Int) : Rat)) nb M M i) * ((c ^ M : Int) : Rat) = ((coef RS i : Int) : Rat)) (hbR : ∀ i, i < nv → Bd (coef RS i).natAbs 60) (hbC : Bd (c ^ M).natAbs 60) (hr0 : 0 < nv → coef RS (nv - 1) ≠ 0) (hSL : mk nv (fun i => coef RS i / (gcdZ (coef RS) nv : Int)) = R) : SiteOk (ph (b_path_1 aa ab xsa xsb eza ezb ma mb Na Nb nb nv M R)) Tryz.prog ⟨7, [.fact 0, .fact 1], [⟨.one (.lit (.cb true)), []⟩], false⟩ := by
  skip
  exact fn_okL ins_path_1 [⟨.one (.lit (.cb true)), []⟩] ss_path_1 Tryz.func7 (by kernel_rfl)
    (lbase (sCut5 8 2 rfl rfl (fun _ _ h => h) rfl rfl (by omega) (by omega) (by omega) hza hNna)
      (lbase (sCut5 6 2 rfl rfl (fun _ _ h => h) rfl rfl (by omega) (by omega) (by omega) hzb hNnb)
      (lbase (sRest (z0 := eza) (k := 2) (n0 := Na) (z1 := ezb) (k1 := 2) (n1 := Nb) (Z := Z) (R := R) (K := 60) (fun _ _ h => Rw.to (sz := 2) (n := Na) (F := (fun ι w v => KI w v (aa ι) ((fun ι => (xsa ι).take 2) ι) (eza ι) 2)) (h) (fun i w v _ h => (fun _ _ _ h => And.right h) i w v h)) (fun _ _ h => Rw.to (sz := 2) (n := Nb) (F := (fun ι w v => KI w v (ab ι) ((fun ι => (xsb ι).take 2) ι) (ezb ι) 2)) (h) (fun i w v _ h => (fun _ _ _ h => And.right h) i w v h)) rfl (by omega) (by omega) (by omega) (by omega) (by omega) hP hPl (by omega) hZ (by omega) hc hbZ hbP hbc (by omega) (by omega) hR)
      (lbase (qLen (sz := 4) (n := (trimL (mk Nb ezb)).length) (F := (fun ι w v => DecQ w v ((((coef (trimL (mk Nb ezb))) ι : Int) : Rat)) (2 + 2 + 2))) Tryz.underlying30 (fun _ _ h => Rw.arr h) rfl)
      (lbase (qTestC (op := .eql) (fun _ _ h => h) (ts_run (decide_eq_false (by omega)) (by simp)))
      (lbase (sDModV (z := coef (trimL (mk Na eza))) (y := coef (trimL (mk Nb ezb))) (n := nb) (n0 := (trimL (mk Na eza)).length) (M := M) (nv := nv) (kz := 2) (ky := 2) (K := 200) (fun _ _ h => h) (fun _ _ h => Rw.len h h0) rfl rfl hM hnv (by omega) (by omega) (by omega) (by omega) (by omega) hzB hyB (by omega) (fun i hi => coef_out hi) hzt hy0 hyt)
      (lbase (sSized (q := fun i => (rq (fun i => ((coef (trimL (mk Na eza)) i : Int) : Rat)) (fun i => ((coef (trimL (mk Nb ezb)) i : Int) : Rat)) nb M M i)) (R := coef RS) (C := c ^ M) (n := nv) (k := 200) (K := 60) (kr := 60) (kc := 60) (SL := R) (fun _ _ h => h) rfl (by omega) (by omega) (by omega) (by omega) (by omega) (by omega) hC hRq hbR hbC hr0 hSL)
      (lbase (sIs6 (z := (coef R)) (n := R.length) (k := 60) (kq := 60) (fun _ _ h => h) (fun _ _ h => h) (by omega) (by omega) (by omega))
      (lbase (sWakes6)
      lnil)))))))))
    (ins_ok [.fact 0 (.one (.s)), .fact 1 (.one (.s))] ⟨fun _ _ h => Rw.is (sz := 2) (F := (fun ι w v => RawI w v (aa ι) (xsa ι))) (n := ma) h, fun _ _ h => Rw.is (sz := 2) (F := (fun ι w v => RawI w v (ab ι) (xsb ι))) (n := mb) h, trivial⟩) (fun _ _ _ h => h)

theorem coef_tm (n : Nat) (f : Nat → Int) (i : Nat) : coef (trimL (mk n f)) i = upto n f i := by
  rw [coef_trim, coef_mk]; rfl
theorem coef_bd {L : List Int} {k n : Nat} {f : Nat → Int} (hL : trimL (mk n f) = L) (h : ∀ i, i < n → Bd (f i).natAbs k) (i : Nat) : Bd (coef L i).natAbs k := by
  rw [← hL, coef_tm]
  unfold upto
  split
  · exact h i (by assumption)
  · exact bd_zeroD k
theorem tl_trim (L : List Int) : tl (coef (trimL L)) (trimL L).length = (trimL L).length := by
  have h := trimL_of (trimL_nrm L)
  have h2 := congrArg List.length h
  rw [trimL_length] at h2
  exact h2
/-- What is left does not hang on a factor of the divisor. -/
theorem rq_scale {x b b' : Nat → Rat} {s : Rat} {n m : Nat} (hs : s ≠ 0) (hb : ∀ i, b' i = b i * s) (hb0 : b n ≠ 0) : ∀ j p, rq x b' n m j p = rq x b n m j p
  | 0, _ => rfl
  | j + 1, p => by
    show rq x b' n m j p - (if m - 1 - j ≤ p then rq x b' n m j (m - 1 - j + n) / b' n * b' (p - (m - 1 - j)) else 0) = rq x b n m j p - (if m - 1 - j ≤ p then rq x b n m j (m - 1 - j + n) / b n * b (p - (m - 1 - j)) else 0)
    rw [rq_scale hs hb hb0 j p, rq_scale hs hb hb0 j (m - 1 - j + n), hb, hb]
    congr 1
    split
    · have h1 := Rat.mul_inv_cancel _ hs
      have h2 := Rat.mul_inv_cancel _ hb0
      have h3 : (b n * s)⁻¹ = (b n)⁻¹ * s⁻¹ := by
        have h4 : b n * s ≠ 0 := fun e => by
          rcases Rat.mul_eq_zero.1 e with h | h
          · exact hb0 h
          · exact hs h
        have h5 := Rat.mul_inv_cancel _ h4
        grind
      rw [Rat.div_def, Rat.div_def, h3]
      grind
    · rfl
theorem walk {ma mb : Nat} {aa ab : Nat → Bool} {xsa xsb : Nat → List Nat} {w : World} {va vb : Value} (hna : ma ≤ 9223372036854775807) (hla : Rw 2 (fun i w v => RawI w v (aa i) (xsa i)) ma w va) (hnb : mb ≤ 9223372036854775807) (hlb : Rw 2 (fun i w v => RawI w v (ab i) (xsb i)) mb w vb) : Calls Tryz.prog 7 #[va, vb] w (Bool_ w true) := by
  obtain ⟨eza, hza⟩ : ∃ ez : Nat → Int, ∀ j, sg (aa j) (Proofs.YteblgmjpociffaaGreat.val 4294967296 ((xsa j).take 2)) = ez j := ⟨_, fun _ => rfl⟩
  obtain ⟨ezb, hzb⟩ : ∃ ez : Nat → Int, ∀ j, sg (ab j) (Proofs.YteblgmjpociffaaGreat.val 4294967296 ((xsb j).take 2)) = ez j := ⟨_, fun _ => rfl⟩
  obtain ⟨Na, hNna⟩ : ∃ N, min ma 8 = N := ⟨_, rfl⟩
  obtain ⟨Nb, hNnb⟩ : ∃ N, min mb 6 = N := ⟨_, rfl⟩
  have hba : ∀ i, i < Na → Bd (eza i).natAbs 2 := fun i hi => by
    obtain ⟨p, c, rfl, _, h1⟩ := hla
    obtain ⟨_, _, _, l, _, _, s, _, _, h2⟩ := h1 i (by omega)
    rw [← hza i, sg_abs]
    exact Bd.row _ h2 2
  have hbb : ∀ i, i < Nb → Bd (ezb i).natAbs 2 := fun i hi => by
    obtain ⟨p, c, rfl, _, h1⟩ := hlb
    obtain ⟨_, _, _, l, _, _, s, _, _, h2⟩ := h1 i (by omega)
    rw [← hzb i, sg_abs]
    exact Bd.row _ h2 2
  rcases Nat.eq_zero_or_pos (tl ezb Nb) with h0 | h0
  · exact law_true (path_0 hna hza hNna hnb hzb hNnb (by rw [trimL_mk]; exact h0) (by rw [dvL, mk_length, h0])) (vs := [va, vb]) ⟨arg_poly hla, arg_poly hlb, trivial⟩
  obtain ⟨nb, hnb1⟩ : ∃ nb, tl ezb Nb = nb + 1 := ⟨tl ezb Nb - 1, by omega⟩
  obtain ⟨P, hP⟩ : ∃ L, dvL ezb Nb (pcon ezb Nb) = L := ⟨_, rfl⟩
  have hleb := tl_le ezb Nb
  have hg0 := pcon_ne h0
  have hPl : P.length = nb + 1 := by rw [← hP, dvL, mk_length, hnb1]
  have hPc : ∀ i, coef P i * pcon ezb Nb = upto Nb ezb i := fun i => by
    rw [← hP, dvL, coef_mk]
    by_cases h1 : i < tl ezb Nb
    · rw [if_pos h1, upto_lt (by omega)]
      exact Int.ediv_mul_cancel (pcon_dvd i (by omega))
    · rw [if_neg h1, Int.zero_mul, tl_out (by omega)]
  have hP0 : ∀ i, nb < i → coef P i = 0 := fun i hi => coef_out (by omega)
  have hPn : 0 < coef P nb := by
    have h1 := hPc nb
    rw [upto_lt (by omega)] at h1
    have h2 : ldZ ezb Nb = ezb nb := by rw [ldZ, if_neg (by omega), hnb1, Nat.add_sub_cancel]
    have h3 := tl_last ezb Nb h0
    rw [hnb1, Nat.add_sub_cancel] at h3
    have h4 := gcdZ_ne h0
    by_cases h5 : ezb nb < 0
    · rw [pcon, if_pos (by omega)] at h1
      rcases Int.lt_or_le 0 (coef P nb) with h7 | h7
      · exact h7
      · have h6 : 0 ≤ coef P nb * -(gcdZ ezb Nb : Int) := Int.mul_nonneg_of_nonpos_of_nonpos h7 (by omega)
        rw [h1] at h6; omega
    · rw [pcon, if_neg (by omega)] at h1
      have h6 : 0 < coef P nb * (gcdZ ezb Nb : Int) := by omega
      exact Int.pos_of_mul_pos_left h6 (by omega)
  obtain ⟨c, hPt⟩ : ∃ c, coef P nb = c := ⟨_, rfl⟩
  have hc : ldZ (coef P) (nb + 1) = c := by
    have : tl (coef P) (nb + 1) = nb + 1 := by
      unfold tl
      rw [if_neg (by omega)]
    rw [ldZ, this, if_neg (by omega), Nat.add_sub_cancel, hPt]
  have hbP : ∀ i, Bd (coef P i).natAbs 2 := fun i => by
    rw [← hP, dvL, coef_mk]
    split
    · exact (hbb i (by omega)).le (Int.natAbs_ediv_le_natAbs ..)
    · exact bd_zeroD _

  have hlea := tl_le eza Na
  obtain ⟨Y, hY⟩ : ∃ L, trimL (mk Nb ezb) = L := ⟨_, rfl⟩
  obtain ⟨Z, hZ⟩ : ∃ L, trimL (mk Na eza) = L := ⟨_, rfl⟩
  obtain ⟨M, hM⟩ : ∃ m, Z.length - nb = m := ⟨_, rfl⟩
  have hYl : Y.length = nb + 1 := by rw [← hY, trimL_mk, hnb1]
  have hZl : Z.length = tl eza Na := by rw [← hZ, trimL_mk]
  have hYu : ∀ i, coef Y i = upto Nb ezb i := fun i => by rw [← hY, coef_tm]
  have hZu : ∀ i, coef Z i = upto Na eza i := fun i => by rw [← hZ, coef_tm]
  have hZt : 0 < Z.length → coef Z (Z.length - 1) ≠ 0 := fun h => by
    have h1 := tl_last eza Na (by omega)
    rw [hZu, upto_lt (by omega), hZl]; exact h1
  have hZ0 : ∀ i, Z.length ≤ i → coef Z i = 0 := fun i hi => coef_out hi
  have hbZ := coef_bd hZ hba
  have hbY := coef_bd hY hbb
  have hc0 : c ≠ 0 := by omega
  have hcp : 0 < c := by omega
  have hYP : ∀ i, coef Y i = coef P i * pcon ezb Nb := fun i => by rw [hPc, hYu]
  have hYt : coef Y nb ≠ 0 := by
    rw [hYP]; exact Int.mul_ne_zero (by omega) hg0
  have hbc : Bd c.natAbs 2 := hPt ▸ hbP nb
  have hCp : 0 < c ^ M := Int.pow_pos hcp
  have hred := red_bd (n := nb) (m := M) (K := 60) hbZ hbP hbc (by omega)
  obtain ⟨RS, hRS⟩ : ∃ L, rsL Z P nb c = L := ⟨_, rfl⟩
  have hRS' : trimL (mk (min nb Z.length) (rdA (coef Z) (coef P) nb M c M)) = RS := by rw [← hRS, ← hM]; rfl
  have hRSl : RS.length ≤ nb := by
    rw [← hRS', trimL_mk]
    exact Nat.le_trans (tl_le _ _) (Nat.min_le_left _ _)
  have hRSt : tl (coef RS) RS.length = RS.length := by rw [← hRS']; exact tl_trim _
  have hRSc : ∀ p, p < nb → coef RS p = rdR (coef Z) (coef P) nb M c M p := fun p hp => by
    rw [← hRS', coef_tm]
    unfold upto
    by_cases h1 : p < min nb Z.length
    · rw [if_pos h1]
      exact rdA_mid (Nat.le_refl _) (by omega) (by omega)
    · rw [if_neg h1, show M = 0 by omega]
      exact (hZ0 p (by omega)).symm
  have cz : ∀ {x : Int}, x ≠ 0 → ((x : Int) : Rat) ≠ 0 := fun h e => h (by exact_mod_cast e)
  have hrq : ∀ p, p < nb → rq (fun i => ((coef Z i : Int) : Rat)) (fun i => ((coef Y i : Int) : Rat)) nb M M p * ((c ^ M : Int) : Rat) = ((coef RS p : Int) : Rat) := fun p hp => by
    rw [rq_scale (b := fun i => ((coef P i : Int) : Rat)) (s := ((pcon ezb Nb : Int) : Rat)) (cz hg0) (fun i => by rw [hYP, Rat.intCast_mul]) (cz (by omega)) M p, rq_rd hPt hc0, hRSc p hp]
  have hnv : tl (fun i => (rq (fun i => ((coef Z i : Int) : Rat)) (fun i => ((coef Y i : Int) : Rat)) nb M M i).num) nb = RS.length := by
    refine tl_is hRSl (fun p h1 h2 => ?_) fun h e => ?_
    · have h3 := hrq p h2
      rw [coef_out h1] at h3
      rcases Rat.mul_eq_zero.1 h3 with h4 | h4
      · rw [h4]; rfl
      · exact absurd h4 (cz (by omega))
    · have h3 := hrq (RS.length - 1) (by omega)
      rw [num_zero_iff.1 e, Rat.zero_mul] at h3
      have h4 := tl_last (coef RS) RS.length (by omega)
      rw [hRSt] at h4
      exact h4 (by exact_mod_cast h3.symm)
  obtain ⟨R, hR⟩ : ∃ L, rstL Z P nb c = L := ⟨_, rfl⟩
  have hSL : mk RS.length (fun i => coef RS i / (gcdZ (coef RS) RS.length : Int)) = R := by
    rw [← hR, rstL, hRS, dvL, hRSt]
  have hRl : R.length = RS.length := by rw [← hSL, mk_length]
  refine law_true (path_1 (nv := RS.length) (M := M) (RS := RS) hna hza hNna hnb hzb hNnb (by rw [hY]; exact hYl) (by omega) hP hPl hc hbP hbc hZ (by omega) (by rw [hZ]) hbZ hR (by omega) (by rw [hZ]; exact hM) (by rw [hZ, hY]; exact hnv) hRSl (by rw [hZ]; exact hbZ) (by rw [hY]; exact hbY) (by rw [hZ]; exact hZt) (by rw [hY]; exact fun i hi => coef_out (by omega)) (by rw [hY]; exact hYt) hCp (by rw [hZ, hY]; exact fun i hi => hrq i (by omega)) ?_ ?_ (fun h => ?_) hSL) (vs := [va, vb]) ⟨arg_poly hla, arg_poly hlb, trivial⟩
  · intro i hi
    rw [hRSc i (by omega)]
    exact (rdR_bd hbZ hbP hbc M i).more (by omega)
  · rw [Int.natAbs_pow]
    exact (Bd.powD hbc M).more (by omega)
  · have h4 := tl_last (coef RS) RS.length (by omega)
    rw [hRSt] at h4
    exact h4
set_option maxRecDepth 100000 in
theorem lifted (os : Os) (started : os.Started) (H : Type) (enc : TypeId × Value → H) :
    ReturnsInHanded {} Tryz.checked os 7 .any (Rows.pdivRestsSpec.pre6 enc Tryz.prog Tryz.f7 Rows.pdivRestsRow.domain false) (Rows.pdivRestsSpec.post enc Tryz.prog Tryz.f7 false true false false) := by
  refine returnsInHanded_of_change (C := Tryz.checked) Tryz.own started (by kernel_rfl) Tryz.func7
    (ChangeSpec.witness6 (enc := enc) (C := Tryz.checked) false ⟨#[], #[.slice none 0 0, .slice none 0 0], []⟩ 8 (by kernel_rfl) (by kernel_rfl) (by kernel_rfl) (by kernel_rfl)) ?_
  intro W base args ds gs before hval0 hW _ _
  have hval : ∀ (j : Nat) t v, Tryz.f7.params[j]? = some t → args[j]? = some v → Value.okWide Tryz.prog W .any base t v := hval0
  obtain ⟨p, q, hA0, hV, rfl, _, _⟩ := id hW
  have hA : DataW.TrodAll enc Tryz.prog W 0 (fun _ => true) true Tryz.f7.params.toList args.toList ds p := hA0
  rw [Tryz.params7] at hA hval
  obtain ⟨v0, vs0, d0, ds0, p0, q0, hargs, rfl, rfl, h0, r0⟩ := trodAll_cons hA
  obtain ⟨v1, vs1, d1, ds1, p1, q1, rfl, rfl, rfl, h1, r1⟩ := trodAll_cons r0
  obtain ⟨rfl, rfl, rfl⟩ := trodAll_nil r1
  obtain rfl : args = #[v0, v1] := by cases args; simp_all
  obtain ⟨n0, a0, xs0, l0, s0⟩ := poly_of_trod h0 (hval 0 23 v0 rfl rfl)
  obtain ⟨n1, a1, xs1, l1, s1⟩ := poly_of_trod h1 (hval 1 23 v1 rfl rfl)
  refine (walk l0 s0 l1 s1).mono fun e W' ⟨he, hg⟩ => ?_
  subst he
  refine ⟨_, rfl, law_post Tryz.laidOut rfl (by kernel_rfl) Tryz.underlying4 ?_ ?_ hW hg⟩
  · rw [Tryz.params7]; decide +kernel
  · rw [Tryz.params7]
    intro ds h
    match ds, h with
    | [_, _], _ => rfl

theorem holds : Rows.PdivRestsSaid :=
  OpenClaim.holds_of_wide 7 Tryz.f7 rfl rfl rfl rfl rfl rfl rfl ⟨rfl, rfl, rfl, rfl, rfl⟩ rfl rfl rfl rfl rfl (by kernel_rfl) Tryz.func7 (by kernel_rfl)
    (of_decide_eq_true (by kernel_rfl)) (by unfold Func.isWrapper; first | (rw [if_pos (by decide +kernel)]; kernel_rfl) | (rw [if_neg (by decide +kernel)]; exact ⟨rfl, rfl⟩))
    (fun os started H enc _ => lifted os started H enc)


end Go.Proofs.YteblgmjpociffaaGreat.vrests
