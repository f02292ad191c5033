/- PdivPseudos holds: for every two polynomials the law returns true and leaves them as they were. No condition. -/
import Derived.Test.YteblgmjpociffaaGreatDivW
import Derived.Test.YteblgmjpociffaaGreatPolQ
import Derived.Test.YteblgmjpociffaaGreatDivQ
namespace Go.Proofs.YteblgmjpociffaaGreat.vpseudos
open Go.ChangeShapes Go.WideShapes Go.ChangeAt Go.RowKit
open Go.Proofs.YteblgmjpociffaaGreat.Sym hiding val run start

theorem scaled_rowQ {L : List Int} {n K : Nat} {z : Nat → Int} (hL : L.length = n ∧ ∀ i, i < n → coef L i = z i) {w : World} {v : Value} (h : Rw 4 (fun i w v => DecQ w v ((coef L i : Int) : Rat) K) L.length w v) : Rw 4 (fun i w v => DecQ w v ((z i : Int) : Rat) K) n w v :=
  Rw.to (sz := 4) (Rw.len h hL.1) fun i w v hi h => DecQ.eq h (by rw [hL.2 i hi])
section
variable {P : Program} {Φ : Nat → World → Value → Prop} {p q n0 n1 k k1 : Nat} {z0 z1 : Nat → Int} {Y : List Int}
theorem qLenNil {T e : TypeId} (hT : P.underlying T = some (.slice e)) : SiteOk Φ P ⟨0, [.lit .nl], [⟨.one (.lit (.ci .i64 0)), []⟩], .quiet (mLen T)⟩ := fun X w ac o xs _ hm ha => by
  unfold mLen at hm
  split at hm
  case h_2 => cases hm
  rename_i args ts ho
  split at hm
  case isFalse => cases hm
  rename_i hts
  subst hts
  simp only [Option.some.injEq] at hm
  subst hm
  match hl : args.toList, ha with
  | [y], ha =>
    have hv : ac.eval y = .slice none 0 0 := ha.1
    have hargs : args = #[y] := by apply Array.ext'; simpa using hl
    subst hargs
    refine ⟨.int .i64 0, w, ?_, grown_refl w none, ⟨⟨⟨rfl, fun _ h => by cases h⟩, fun r hr => by cases hr⟩, trivial⟩⟩
    unfold execOp
    simp [ho, resolve, invoke, builtin, Builtin.len_, run_underlying hT, hv, goInt]
theorem sPseudo0 (hp : ∀ w v, Φ p w v → Rw 2 (fun i w v => IntV w v (z0 i) k) n0 w v) (hq : ∀ w v, Φ q w v → Rw 2 (fun i w v => IntV w v (z1 i) k1) n1 w v) (hn1 : n1 ≤ 1000000) (hk1 : k1 ≤ 90000) (hY : trimL (mk n1 z1) = Y) (hYl : Y.length = 0) :
    SiteOk Φ Tryz.prog ⟨38, [.fact p, .fact q], [⟨.one (.lit .nl), []⟩, ⟨.one (.lit .nl), []⟩, ⟨.one (.lit (.ci .i64 0)), []⟩, ⟨.one (.lit (.ci .i64 2)), []⟩], true⟩ :=
  viaG (ppseudo_0 (k := k) (n0 := n0) (z0 := z0) hn1 hk1 hY hYl) ⟨hp, hq, trivial⟩ ⟨⟨rfl, trivial⟩, ⟨rfl, trivial⟩, ⟨rfl, trivial⟩, ⟨rfl, trivial⟩, trivial⟩
end
section
variable {Φ : Nat → World → Value → Prop} {p q x y t n0 n1 k k1 nb m kp K KQ : Nat} {z0 z1 : Nat → Int} {c : Int} {Z Y L2 QL : List Int}
theorem sPseudo (hp : ∀ w v, Φ p w v → Rw 2 (fun i w v => IntV w v (z0 i) k) n0 w v) (hq : ∀ w v, Φ q w v → Rw 2 (fun i w v => IntV w v (z1 i) k1) n1 w v) (hx : Φ x = fun w v => Rw 2 (fun i w v => NorV w v (coef QL i) KQ) QL.length w v) (hy : Φ y = fun w v => Rw 2 (fun i w v => NorV w v (coef L2 i) K) L2.length w v) (ht : Φ t = fun _ v => v = .int .i64 ((m : Nat) : Int))
    (hn0 : n0 ≤ 1000000) (hn1 : n1 ≤ 1000000) (hk : k ≤ 90000) (hk1 : k1 ≤ 90000) (hY : trimL (mk n1 z1) = Y) (hkK : k ≤ K) (hYl : Y.length = nb + 1) (hnb : nb ≤ 800000) (hZ : trimL (mk n0 z0) = Z) (hZl : Z.length ≤ 1000000) (hm : m = Z.length - nb) (hkp : kp ≤ 90000) (hK : K ≤ 90000) (hKQ : KQ ≤ 90000) (hKK : K ≤ KQ) (hc : ldZ (coef Y) (nb + 1) = c) (hB : ∀ j, j ≤ m → Bd (c ^ j).natAbs kp) (hA1 : ∀ j p, j < m → Bd (rA1 (coef Z) (coef Y) nb m c j p).natAbs K) (hM : ∀ j i p, j < m → Bd (rMid (coef Z) (coef Y) nb m c j i p).natAbs K) (hL2 : trimL (mk (min nb Z.length) (rdA (coef Z) (coef Y) nb m c m)) = L2) (hQ : ∀ j, j < m → Bd (psQ (dto m m (rdT (coef Z) (coef Y) nb m c)) c (j + 1) j).natAbs KQ) (hQL : mk m (fun p => dto m m (rdT (coef Z) (coef Y) nb m c) p * c ^ p) = QL) :
    SiteOk Φ Tryz.prog ⟨38, [.fact p, .fact q], [⟨.one .s, [(0, 0, x)]⟩, ⟨.one .s, [(0, 0, y)]⟩, ⟨.one .i, [(0, 0, t)]⟩, ⟨.one (.lit (.ci .i64 0)), []⟩], true⟩ :=
  viaG (ppseudo hn0 hn1 hk hk1 hY hkK hYl hnb hZ hZl hm hkp hK hKQ hKK hc hB hA1 hM hL2 hQ) ⟨hp, hq, trivial⟩ ⟨⟨rfl, ⟨rfl, rfl, fun w v h => by
    rw [hx, ← hQL, mk_length]
    exact Rw.to (sz := 2) (n := m) (F := fun i w v => NorV w v (psQ (dto m m (rdT (coef Z) (coef Y) nb m c)) c m i) KQ) (ArrO.rw (e := 26) h) fun i w v hi h => h.eq (by rw [psQ, if_pos hi, coef_mk, if_pos hi])⟩, trivial⟩, ⟨rfl, ⟨rfl, rfl, fun _ _ h => hy ▸ h⟩, trivial⟩, ⟨rfl, ⟨rfl, rfl, fun _ _ h => ht ▸ h⟩, trivial⟩, ⟨rfl, trivial⟩, trivial⟩
end
def b_path_0 (aa ab : Nat → Bool) (xsa xsb : Nat → List Nat) (eza ezb : Nat → Int) (ma mb Na Nb : Nat) : List (World → Value → Prop) := [fun w v => Rw 2 (fun ι w v => RawI w v (aa ι) (xsa ι)) ma w v, fun w v => Rw 2 (fun ι w v => RawI w v (ab ι) (xsb ι)) mb w v, fun w v => Rw 2 (fun ι w v => KI w v (aa ι) ((fun ι => (xsa ι).take 2) ι) (eza ι) 2) Na w v, fun w v => Rw 4 (fun ι w v => DecQ w v ((((coef (trimL (mk Na eza))) ι : Int) : Rat)) (2 + 2 + 2)) ((trimL (mk Na eza)).length) w v, fun w v => Rw 2 (fun ι w v => KI w v (ab ι) ((fun ι => (xsb ι).take 2) ι) (ezb ι) 2) Nb w v, fun w v => Rw 4 (fun ι w v => DecQ w v ((((coef (trimL (mk Nb ezb))) ι : Int) : Rat)) (2 + 2 + 2)) ((trimL (mk Nb ezb)).length) w v, fun _ v => v = .int .i64 (((trimL (mk Nb ezb)).length : Nat) : Int)]
def ss_path_0 : List Step := [.base ⟨11, [.fact 0, .lit (.ci .i64 8), .lit (.ci .i64 2)], [⟨.one (.s), [(0, 0, 2)]⟩, ⟨.one (.s), [(0, 0, 3)]⟩], true⟩,
      .base ⟨11, [.fact 1, .lit (.ci .i64 5), .lit (.ci .i64 2)], [⟨.one (.s), [(0, 0, 4)]⟩, ⟨.one (.s), [(0, 0, 5)]⟩], true⟩,
      .base ⟨38, [.fact 2, .fact 4], [⟨.one (.lit (.nl)), []⟩, ⟨.one (.lit (.nl)), []⟩, ⟨.one (.lit (.ci .i64 0)), []⟩, ⟨.one (.lit (.ci .i64 2)), []⟩], true⟩,
      .base ⟨0, [.fact 5], [⟨.one (.i), [(0, 0, 6)]⟩], .quiet (mLen 30)⟩,
      .base ⟨0, [.fact 6, .lit (.ci .i64 0)], [⟨.one (.lit (.cb true)), []⟩], .quiet (mBin .eql)⟩,
      .base ⟨0, [.lit .nl], [⟨.one (.lit (.ci .i64 0)), []⟩], .quiet (mLen 23)⟩,
      .base ⟨0, [.lit .nl], [⟨.one (.lit (.ci .i64 0)), []⟩], .quiet (mLen 23)⟩,
      .base ⟨37, [], [⟨.one (.lit (.cb true)), []⟩], false⟩]
def ins_path_0 : List Out := [⟨.one (.s), [(0, 0, 0)]⟩, ⟨.one (.s), [(0, 0, 1)]⟩]
set_option maxHeartbeats 1000000 in
set_option maxRecDepth 100000 in
theorem path_0 {aa ab : Nat → Bool} {xsa xsb : Nat → List Nat} {eza ezb : Nat → Int} {ma mb Na Nb : Nat} (hna : ma ≤ 9223372036854775807) (hza : ∀ j, sg (aa j) (Proofs.YteblgmjpociffaaGreat.val 4294967296 ((xsa j).take 2)) = eza j) (hNna : min ma 8 = Na) (hnb : mb ≤ 9223372036854775807) (hzb : ∀ j, sg (ab j) (Proofs.YteblgmjpociffaaGreat.val 4294967296 ((xsb j).take 2)) = ezb j) (hNnb : min mb 5 = Nb) (h0 : (trimL (mk Nb ezb)).length = 0) : SiteOk (ph (b_path_0 aa ab xsa xsb eza ezb ma mb Na Nb)) Tryz.prog ⟨5, [.fact 0, .fact 1], [⟨.one (.lit (.cb true)), []⟩], false⟩ := by
  skip
  exact fn_okL ins_path_0 [⟨.one (.lit (.cb true)), []⟩] ss_path_0 Tryz.func5 (by kernel_rfl)
    (lbase (sCut5 8 2 rfl rfl (fun _ _ h => h) rfl rfl (by omega) (by omega) (by omega) hza hNna)
      (lbase (sCut5 5 2 rfl rfl (fun _ _ h => h) rfl rfl (by omega) (by omega) (by omega) hzb hNnb)
      (lbase (sPseudo0 (fun _ _ h => Rw.to (sz := 2) (n := Na) (F := (fun ι w v => KI w v (aa ι) ((fun ι => (xsa ι).take 2) ι) (eza ι) 2)) (h) (fun i w v _ h => (fun _ _ _ h => And.right h) i w v h)) (fun _ _ h => Rw.to (sz := 2) (n := Nb) (F := (fun ι w v => KI w v (ab ι) ((fun ι => (xsb ι).take 2) ι) (ezb ι) 2)) (h) (fun i w v _ h => (fun _ _ _ h => And.right h) i w v h)) (by omega) (by omega) rfl h0)
      (lbase (qLen (sz := 4) (n := (trimL (mk Nb ezb)).length) (F := (fun ι w v => DecQ w v ((((coef (trimL (mk Nb ezb))) ι : Int) : Rat)) (2 + 2 + 2))) Tryz.underlying30 (fun _ _ h => Rw.arr h) rfl)
      (lbase (qTestC (op := .eql) (fun _ _ h => h) (ts_run (decide_eq_true (by omega)) (by simp)))
      (lbase (qLenNil Tryz.underlying23)
      (lbase (qLenNil Tryz.underlying23)
      (lbase (sWakes6)
      lnil))))))))
    (ins_ok [.fact 0 (.one (.s)), .fact 1 (.one (.s))] ⟨fun _ _ h => Rw.is (sz := 2) (F := (fun ι w v => RawI w v (aa ι) (xsa ι))) (n := ma) h, fun _ _ h => Rw.is (sz := 2) (F := (fun ι w v => RawI w v (ab ι) (xsb ι))) (n := mb) h, trivial⟩) (fun _ _ _ h => h)

def b_path_1 (aa ab : Nat → Bool) (xsa xsb : Nat → List Nat) (eza ezb : Nat → Int) (ma mb Na Nb m : Nat) (c : Int) (L2 QL : List Int) : List (World → Value → Prop) := [fun w v => Rw 2 (fun ι w v => RawI w v (aa ι) (xsa ι)) ma w v, fun w v => Rw 2 (fun ι w v => RawI w v (ab ι) (xsb ι)) mb w v, fun w v => Rw 2 (fun ι w v => KI w v (aa ι) ((fun ι => (xsa ι).take 2) ι) (eza ι) 2) Na w v, fun w v => Rw 4 (fun ι w v => DecQ w v ((((coef (trimL (mk Na eza))) ι : Int) : Rat)) (2 + 2 + 2)) ((trimL (mk Na eza)).length) w v, fun w v => Rw 2 (fun ι w v => KI w v (ab ι) ((fun ι => (xsb ι).take 2) ι) (ezb ι) 2) Nb w v, fun w v => Rw 4 (fun ι w v => DecQ w v ((((coef (trimL (mk Nb ezb))) ι : Int) : Rat)) (2 + 2 + 2)) ((trimL (mk Nb ezb)).length) w v, fun w v => Rw 2 (fun ι w v => NorV w v ((coef QL) ι) 100) QL.length w v, fun w v => Rw 2 (fun ι w v => NorV w v ((coef L2) ι) 50) L2.length w v, fun _ v => v = .int .i64 ((m : Nat) : Int), fun _ v => v = .int .i64 (((trimL (mk Nb ezb)).length : Nat) : Int), fun _ v => v = .int .i64 (((trimL (mk Na eza)).length : Nat) : Int), fun _ v => v = .int .i64 (((trimL (mk Nb ezb)).length : Nat) : Int), fun _ v => v = .int .i64 ((((trimL (mk Na eza)).length : Nat) : Int) - (((trimL (mk Nb ezb)).length : Nat) : Int)), fun _ v => v = .int .i64 ((((trimL (mk Na eza)).length : Nat) : Int) - (((trimL (mk Nb ezb)).length : Nat) : Int) + 1), fun _ v => v = .int .i64 ((m : Nat) : Int), fun w v => Rw 4 (fun ι w v => DecQ w v (((coef (trimL (mk Na eza)) ι * c ^ m : Int) : Rat)) 30) (trimL (mk Na eza)).length w v, fun w v => Rw 4 (fun ι w v => DecQ w v ((((coef QL) ι : Int) : Rat)) 200) QL.length w v, fun w v => Rw 4 (fun ι w v => DecQ w v ((((coef L2) ι : Int) : Rat)) 200) L2.length w v]
def l_path_1_1 (eza ezb : Nat → Int) (Na Nb nb : Nat) (c : Int) (j : Nat) : List (World → Value → Prop) := [fun _ v => v = .int .i64 ((j : Nat) : Int), fun w v => Rw 4 (fun ι w v => DecQ w v (((coef (trimL (mk Na eza)) ι * c ^ j : Int) : Rat)) 30) (trimL (mk Na eza)).length w v, fun _ v => v = .int .i64 (((trimL (mk Nb ezb)).length : Nat) : Int), fun _ v => v = .int .i64 ((nb : Nat) : Int), fun w v => Ptr 4 (fun w v => DecQ w v ((((coef (trimL (mk Nb ezb))) nb : Int) : Rat)) (2 + 2 + 2)) w v, fun w v => DecQ w v ((((coef (trimL (mk Nb ezb))) nb : Int) : Rat)) (2 + 2 + 2), fun w v => Rw 4 (fun ι w v => DecQ w v ((((coef (trimL (mk (trimL (mk Na eza)).length fun i => coef (trimL (mk Na eza)) i * c ^ j * c))) ι : Int) : Rat)) 30) ((trimL (mk (trimL (mk Na eza)).length fun i => coef (trimL (mk Na eza)) i * c ^ j * c)).length) w v, fun _ v => v = .int .i64 (((j + 1) : Nat) : Int)]
def d_path_1_1 : LoopD := ⟨[0, 1, 4, 5, 6, 7, 8, 9, 10, 11, 16, 17, 18, 19, 20, 21, 22, 23, 24, 25, 26, 27, 28, 29, 30, 31, 32, 33, 34, 35, 36, 52, 53, 54, 55, 56, 57, 58, 59], [(.slot 13, .i), (.slot 12, .s)], [(.one 0, 18), (.one 1, 19)], [.closed (.one (.ci .i64 0)), .from 3], 18, [(19, 15)]⟩
def r_path_1_1_0 : List Step := [.base ⟨0, [.fact 18, .fact 14], [⟨.one (.lit (.cb true)), []⟩], .quiet (mBin .lss)⟩,
      .base ⟨0, [.fact 5], [⟨.one (.i), [(0, 0, 20)]⟩], .quiet (mLen 30)⟩,
      .base ⟨0, [.fact 20, .lit (.ci .i64 1)], [⟨.one (.i), [(0, 0, 21)]⟩], .quiet (mBin .sub)⟩,
      .base ⟨0, [.fact 5, .fact 21], [⟨.one (.p), [(0, 0, 22)]⟩], .quiet (mIdx 30)⟩,
      .base ⟨0, [.fact 22], [⟨.agg [.s, .b, .s, .b], [(0, 0, 23)]⟩], .quiet (mLoad 53)⟩,
      .base ⟨25, [.fact 19, .fact 23], [⟨.one (.s), [(0, 0, 24)]⟩], false⟩,
      .base ⟨0, [.fact 18, .lit (.ci .i64 1)], [⟨.one (.i), [(0, 0, 25)]⟩], .quiet (mBin .add)⟩]
def o_path_1_1 : List Step := [.base ⟨0, [.fact 18, .fact 14], [⟨.one (.lit (.cb false)), []⟩], .quiet (mBin .lss)⟩]
def ss_path_1 : List Step := [.base ⟨11, [.fact 0, .lit (.ci .i64 8), .lit (.ci .i64 2)], [⟨.one (.s), [(0, 0, 2)]⟩, ⟨.one (.s), [(0, 0, 3)]⟩], true⟩,
      .base ⟨11, [.fact 1, .lit (.ci .i64 5), .lit (.ci .i64 2)], [⟨.one (.s), [(0, 0, 4)]⟩, ⟨.one (.s), [(0, 0, 5)]⟩], true⟩,
      .base ⟨38, [.fact 2, .fact 4], [⟨.one (.s), [(0, 0, 6)]⟩, ⟨.one (.s), [(0, 0, 7)]⟩, ⟨.one (.i), [(0, 0, 8)]⟩, ⟨.one (.lit (.ci .i64 0)), []⟩], true⟩,
      .base ⟨0, [.fact 5], [⟨.one (.i), [(0, 0, 9)]⟩], .quiet (mLen 30)⟩,
      .base ⟨0, [.fact 9, .lit (.ci .i64 0)], [⟨.one (.lit (.cb false)), []⟩], .quiet (mBin .eql)⟩,
      .base ⟨0, [.fact 3], [⟨.one (.i), [(0, 0, 10)]⟩], .quiet (mLen 30)⟩,
      .base ⟨0, [.fact 5], [⟨.one (.i), [(0, 0, 11)]⟩], .quiet (mLen 30)⟩,
      .base ⟨0, [.fact 10, .fact 11], [⟨.one (.i), [(0, 0, 12)]⟩], .quiet (mBin .sub)⟩,
      .base ⟨0, [.fact 12, .lit (.ci .i64 1)], [⟨.one (.i), [(0, 0, 13)]⟩], .quiet (mBin .add)⟩,
      .base ⟨0, [.fact 13, .lit (.ci .i64 0)], [⟨.one (.i), [(0, 0, 14)]⟩], .quiet (mMax .max)⟩,
      .loop d_path_1_1 [(r_path_1_1_0, [.from 25, .from 24])] o_path_1_1,
      .base ⟨39, [.fact 15, .fact 5], [⟨.one (.s), [(0, 0, 16)]⟩, ⟨.one (.s), [(0, 0, 17)]⟩], true⟩,
      .base ⟨0, [.fact 8, .fact 14], [⟨.one (.lit (.cb true)), []⟩], .quiet (mBin .eql)⟩,
      .base ⟨35, [.fact 16, .fact 6], [⟨.one (.lit (.cb true)), []⟩], false⟩,
      .base ⟨35, [.fact 17, .fact 7], [⟨.one (.lit (.cb true)), []⟩], false⟩,
      .base ⟨37, [], [⟨.one (.lit (.cb true)), []⟩], false⟩]
def ins_path_1 : List Out := [⟨.one (.s), [(0, 0, 0)]⟩, ⟨.one (.s), [(0, 0, 1)]⟩]
set_option maxHeartbeats 1000000 in
set_option maxRecDepth 100000 in
theorem path_1 {aa ab : Nat → Bool} {xsa xsb : Nat → List Nat} {eza ezb : Nat → Int} {ma mb Na Nb nb m : Nat} {c : Int} {Z Y L2 QL : List Int} (hna : ma ≤ 9223372036854775807) (hza : ∀ j, sg (aa j) (Proofs.YteblgmjpociffaaGreat.val 4294967296 ((xsa j).take 2)) = eza j) (hNna : min ma 8 = Na) (hnb : mb ≤ 9223372036854775807) (hzb : ∀ j, sg (ab j) (Proofs.YteblgmjpociffaaGreat.val 4294967296 ((xsb j).take 2)) = ezb j) (hNnb : min mb 5 = Nb) (h0 : (trimL (mk Nb ezb)).length = nb + 1) (hY : trimL (mk Nb ezb) = Y) (hYl : Y.length = nb + 1) (hnb : nb ≤ 4) (hZ : trimL (mk Na eza) = Z) (hZl : Z.length ≤ 8) (hZa : (trimL (mk Na eza)).length = Z.length) (hm : m = Z.length - nb)
    (hc : ldZ (coef Y) (nb + 1) = c) (hcb : coef (trimL (mk Nb ezb)) nb = c) (hB : ∀ j, j ≤ m → Bd (c ^ j).natAbs 20)
    (hA1 : ∀ j p, j < m → Bd (rA1 (coef Z) (coef Y) nb m c j p).natAbs 50) (hM : ∀ j i p, j < m → Bd (rMid (coef Z) (coef Y) nb m c j i p).natAbs 50) (hL2 : trimL (mk (min nb Z.length) (rdA (coef Z) (coef Y) nb m c m)) = L2)
    (hQ : ∀ j, j < m → Bd (psQ (dto m m (rdT (coef Z) (coef Y) nb m c)) c (j + 1) j).natAbs 100) (hQL : mk m (fun p => (dto m m (rdT (coef Z) (coef Y) nb m c)) p * c ^ p) = QL) (hQLl : QL.length ≤ 8) (hL2l : L2.length ≤ 8)
    (hSB : ∀ j, j < m → ∀ i, i < (trimL (mk Na eza)).length → Bd (coef (trimL (mk Na eza)) i * c ^ j * c).natAbs 30) (hS : ∀ j, j < m → (trimL (mk (trimL (mk Na eza)).length fun i => coef (trimL (mk Na eza)) i * c ^ j * c)).length = (trimL (mk Na eza)).length ∧ ∀ i, i < (trimL (mk Na eza)).length → coef (trimL (mk (trimL (mk Na eza)).length fun i => coef (trimL (mk Na eza)) i * c ^ j * c)) i = coef (trimL (mk Na eza)) i * c ^ (j + 1))
    (hzB : ∀ i, Bd (coef (trimL (mk Na eza)) i * c ^ m).natAbs 30) (hyB : ∀ i, Bd (coef (trimL (mk Nb ezb)) i).natAbs 2) (hKb : 30 + ((trimL (mk Na eza)).length - nb + 1) * (2 + 1) ≤ 200) (hz0 : ∀ i, (trimL (mk Na eza)).length ≤ i → coef (trimL (mk Na eza)) i * c ^ m = 0) (hzt : 0 < (trimL (mk Na eza)).length → coef (trimL (mk Na eza)) ((trimL (mk Na eza)).length - 1) * c ^ m ≠ 0) (hy0 : ∀ i, nb < i → coef (trimL (mk Nb ezb)) i = 0) (hyt : coef (trimL (mk Nb ezb)) nb ≠ 0)
    (hDQ : tl (fun i => (rqQ (fun i => ((coef (trimL (mk Na eza)) i * c ^ m : Int) : Rat)) (fun i => ((coef (trimL (mk Nb ezb)) i : Int) : Rat)) nb ((trimL (mk Na eza)).length - nb) i).num) ((trimL (mk Na eza)).length - nb) = QL.length ∧ ∀ i, i < QL.length → rqQ (fun i => ((coef (trimL (mk Na eza)) i * c ^ m : Int) : Rat)) (fun i => ((coef (trimL (mk Nb ezb)) i : Int) : Rat)) nb ((trimL (mk Na eza)).length - nb) i = ((coef QL i : Int) : Rat))
    (hDR : tl (fun i => (rq (fun i => ((coef (trimL (mk Na eza)) i * c ^ m : Int) : Rat)) (fun i => ((coef (trimL (mk Nb ezb)) i : Int) : Rat)) nb ((trimL (mk Na eza)).length - nb) ((trimL (mk Na eza)).length - nb) i).num) nb = L2.length ∧ ∀ i, i < L2.length → rq (fun i => ((coef (trimL (mk Na eza)) i * c ^ m : Int) : Rat)) (fun i => ((coef (trimL (mk Nb ezb)) i : Int) : Rat)) nb ((trimL (mk Na eza)).length - nb) ((trimL (mk Na eza)).length - nb) i = ((coef L2 i : Int) : Rat)) : SiteOk (ph (b_path_1 aa ab xsa xsb eza ezb ma mb Na Nb m c L2 QL)) Tryz.prog ⟨5, [.fact 0, .fact 1], [⟨.one (.lit (.cb true)), []⟩], false⟩ := by
  skip
  exact fn_okL ins_path_1 [⟨.one (.lit (.cb true)), []⟩] ss_path_1 Tryz.func5 (by kernel_rfl)
    (lbase (sCut5 8 2 rfl rfl (fun _ _ h => h) rfl rfl (by omega) (by omega) (by omega) hza hNna)
      (lbase (sCut5 5 2 rfl rfl (fun _ _ h => h) rfl rfl (by omega) (by omega) (by omega) hzb hNnb)
      (lbase (sPseudo (fun _ _ h => Rw.to (sz := 2) (n := Na) (F := (fun ι w v => KI w v (aa ι) ((fun ι => (xsa ι).take 2) ι) (eza ι) 2)) (h) (fun i w v _ h => (fun _ _ _ h => And.right h) i w v h)) (fun _ _ h => Rw.to (sz := 2) (n := Nb) (F := (fun ι w v => KI w v (ab ι) ((fun ι => (xsb ι).take 2) ι) (ezb ι) 2)) (h) (fun i w v _ h => (fun _ _ _ h => And.right h) i w v h)) rfl rfl rfl (by omega) (by omega) (by omega) (by omega) hY (by omega) hYl (by omega) hZ (by omega) hm (by omega) (by omega) (by omega) (by omega) hc hB hA1 hM hL2 hQ hQL)
      (lbase (qLen (sz := 4) (n := (trimL (mk Nb ezb)).length) (F := (fun ι w v => DecQ w v ((((coef (trimL (mk Nb ezb))) ι : Int) : Rat)) (2 + 2 + 2))) Tryz.underlying30 (fun _ _ h => Rw.arr h) rfl)
      (lbase (qTestC (op := .eql) (fun _ _ h => h) (ts_run (decide_eq_false (by omega)) (by simp)))
      (lbase (qLen (sz := 4) (n := (trimL (mk Na eza)).length) (F := (fun ι w v => DecQ w v ((((coef (trimL (mk Na eza))) ι : Int) : Rat)) (2 + 2 + 2))) Tryz.underlying30 (fun _ _ h => Rw.arr h) rfl)
      (lbase (qLen (sz := 4) (n := (trimL (mk Nb ezb)).length) (F := (fun ι w v => DecQ w v ((((coef (trimL (mk Nb ezb))) ι : Int) : Rat)) (2 + 2 + 2))) Tryz.underlying30 (fun _ _ h => Rw.arr h) rfl)
      (lbase (qSubJ (fun _ _ h => h) (fun _ _ h => h) (rfl) rfl (by omega) (by omega))
      (lbase (qAddK (fun _ _ h => h) (rfl) rfl (by omega) (by omega))
      (lbase (qMaxC (fun _ _ h => h) (by have := hm; have := h0; have := hZa; split <;> omega) rfl)
      (lloop (counted m (fun j => ph (b_path_1 aa ab xsa xsb eza ezb ma mb Na Nb m c L2 QL ++ l_path_1_1 eza ezb Na Nb nb c j)) (fun _ => 0) (fun j p hp => ph_app' (show p < (b_path_1 aa ab xsa xsb eza ezb ma mb Na Nb m c L2 QL).length from hp)) ⟨fun _ => rfl, fun _ _ h => Rw.to (sz := 4) (n := (trimL (mk Na eza)).length) (F := fun ι w v => DecQ w v (((coef (trimL (mk Na eza))) ι : Int) : Rat) (2 + 2 + 2)) h fun i w v _ h => DecQ.more (DecQ.eq h (by rw [Int.pow_zero, Int.mul_one])) (by omega), trivial⟩ (fun j hj => by
      skip
      exact ⟨(r_path_1_1_0, [.from 25, .from 24]), rfl, ⟨fun _ _ h => h, fun _ _ h => scaled_rowQ (n := (trimL (mk Na eza)).length) (z := fun i => coef (trimL (mk Na eza)) i * c ^ (j + 1)) (hS j hj) h, trivial⟩, (lbase (qTest (op := .lss) (fun _ _ h => h) (fun _ _ h => h) (ts_run (decide_eq_true (by omega)) (by simp)))
      (lbase (qLen (sz := 4) (n := (trimL (mk Nb ezb)).length) (F := (fun ι w v => DecQ w v ((((coef (trimL (mk Nb ezb))) ι : Int) : Rat)) (2 + 2 + 2))) Tryz.underlying30 (fun _ _ h => Rw.arr h) rfl)
      (lbase (qSubK (fun _ _ h => h) (by omega) rfl (by omega) (by omega))
      (lbase (qIdx (i := nb) (sz := 4) (n := (trimL (mk Nb ezb)).length) (F := (fun ι w v => DecQ w v ((((coef (trimL (mk Nb ezb))) ι : Int) : Rat)) (2 + 2 + 2))) Tryz.underlying30 (by kernel_rfl) (fun _ _ h => Rw.arr h) (fun _ _ h => h) (by omega) rfl)
      (lbase (qLoad (sz := 4) (F := fun w v => DecQ w v ((((coef (trimL (mk Nb ezb))) nb : Int) : Rat)) (2 + 2 + 2)) (by kernel_rfl) (by kernel_rfl) (fun _ _ h => h) (fun _ _ _ g h => DecQ.kp h g) (fun _ _ h => DecQ.is h) rfl)
      (lbase (sRScaleI (z := fun i => coef (trimL (mk Na eza)) i * c ^ j) (c := c) (n := (trimL (mk Na eza)).length) (K := 30) (X := (trimL (mk (trimL (mk Na eza)).length fun i => coef (trimL (mk Na eza)) i * c ^ j * c))) (fun _ _ h => h) (fun _ _ h => DecQ.eq h (by rw [hcb])) rfl (by omega) (by omega) (by omega) (by omega) (by omega) (hSB j hj) rfl)
      (lbase (qAddK (fun _ _ h => h) (by omega) rfl (by omega) (by omega))
      lnil)))))))⟩)
      (lbase (qTest (op := .lss) (fun _ _ h => h) (fun _ _ h => h) (ts_run (decide_eq_false (by omega)) (by simp)))
      lnil)
      (fun q hq w v h => by
        simp only [d_path_1_1, List.mem_cons, List.not_mem_nil, or_false] at hq
        rcases hq with rfl
        · exact (fun h => h) h)) (lbase (sDModI (z := fun i => coef (trimL (mk Na eza)) i * c ^ m) (y := coef (trimL (mk Nb ezb))) (n := nb) (n0 := (trimL (mk Na eza)).length) (kz := 30) (ky := 2) (K := 200) (fun _ _ h => h) (fun _ _ h => Rw.len h h0) rfl rfl (by omega) (by omega) (by omega) (by omega) (by omega) hzB hyB hKb hz0 hzt hy0 hyt hDQ hDR)
      (lbase (qTest (op := .eql) (fun _ _ h => h) (fun _ _ h => h) (ts_run (decide_eq_true (by omega)) (by simp)))
      (lbase (sIs6 (z := (coef QL)) (n := QL.length) (k := 100) (kq := 200) (fun _ _ h => h) (fun _ _ h => h) (by omega) (by omega) (by omega))
      (lbase (sIs6 (z := (coef L2)) (n := L2.length) (k := 50) (kq := 200) (fun _ _ h => h) (fun _ _ h => h) (by omega) (by omega) (by omega))
      (lbase (sWakes6)
      lnil))))))))))))))))
    (ins_ok [.fact 0 (.one (.s)), .fact 1 (.one (.s))] ⟨fun _ _ h => Rw.is (sz := 2) (F := (fun ι w v => RawI w v (aa ι) (xsa ι))) (n := ma) h, fun _ _ h => Rw.is (sz := 2) (F := (fun ι w v => RawI w v (ab ι) (xsb ι))) (n := mb) h, trivial⟩) (fun _ _ _ h => h)

theorem coef_tm (n : Nat) (f : Nat → Int) (i : Nat) : coef (trimL (mk n f)) i = upto n f i := by
  rw [coef_trim, coef_mk]; rfl
theorem coef_bd {L : List Int} {k n : Nat} {f : Nat → Int} (hL : trimL (mk n f) = L) (h : ∀ i, i < n → Bd (f i).natAbs k) (i : Nat) : Bd (coef L i).natAbs k := by
  rw [← hL, coef_tm]
  unfold upto
  split
  · exact h i (by assumption)
  · exact bd_zeroD k
theorem tl_trim (L : List Int) : tl (coef (trimL L)) (trimL L).length = (trimL L).length := by
  have h := trimL_of (trimL_nrm L)
  have h2 := congrArg List.length h
  rw [trimL_length] at h2
  exact h2
section
variable {z y : Nat → Int} {n m : Nat} {c : Int}
theorem rdR_mul (s : Int) : ∀ j p, rdR (fun i => z i * s) y n m c j p = rdR z y n m c j p * s
  | 0, _ => rfl
  | j + 1, p => by
    rw [rdR, rdR, rdR_mul s j p, rdR_mul s j]
    split <;> grind
theorem rq_z (hy : y n = c) (hc : c ≠ 0) {j : Nat} (hj : j ≤ m) (p : Nat) : rq (fun i => ((z i * c ^ m : Int) : Rat)) (fun i => ((y i : Int) : Rat)) n m j p = ((rdR z y n m c j p * c ^ (m - j) : Int) : Rat) := by
  have h1 := rq_rd (z := fun i => z i * c ^ m) (y := y) (n := n) (m := m) hy hc j p
  rw [rdR_mul] at h1
  have hp : ((c ^ j : Int) : Rat) ≠ 0 := fun e => Int.pow_ne_zero hc (by exact_mod_cast e)
  have h2 : rdR z y n m c j p * c ^ m = rdR z y n m c j p * c ^ (m - j) * c ^ j := by
    rw [Int.mul_assoc, ← Int.pow_add, Nat.sub_add_cancel hj]
  rw [h2, Rat.intCast_mul _ (c ^ j)] at h1
  have h3 := congrArg (fun q => q * ((c ^ j : Int) : Rat)⁻¹) h1
  simp only [Rat.mul_assoc, Rat.mul_inv_cancel _ hp, Rat.mul_one] at h3
  exact h3
end
theorem walk {ma mb : Nat} {aa ab : Nat → Bool} {xsa xsb : Nat → List Nat} {w : World} {va vb : Value} (hna : ma ≤ 9223372036854775807) (hla : Rw 2 (fun i w v => RawI w v (aa i) (xsa i)) ma w va) (hnb : mb ≤ 9223372036854775807) (hlb : Rw 2 (fun i w v => RawI w v (ab i) (xsb i)) mb w vb) : Calls Tryz.prog 5 #[va, vb] w (Bool_ w true) := by
  obtain ⟨eza, hza⟩ : ∃ ez : Nat → Int, ∀ j, sg (aa j) (Proofs.YteblgmjpociffaaGreat.val 4294967296 ((xsa j).take 2)) = ez j := ⟨_, fun _ => rfl⟩
  obtain ⟨ezb, hzb⟩ : ∃ ez : Nat → Int, ∀ j, sg (ab j) (Proofs.YteblgmjpociffaaGreat.val 4294967296 ((xsb j).take 2)) = ez j := ⟨_, fun _ => rfl⟩
  obtain ⟨Na, hNna⟩ : ∃ N, min ma 8 = N := ⟨_, rfl⟩
  obtain ⟨Nb, hNnb⟩ : ∃ N, min mb 5 = N := ⟨_, rfl⟩
  have hba : ∀ i, i < Na → Bd (eza i).natAbs 2 := fun i hi => by
    obtain ⟨p, c, rfl, _, h1⟩ := hla
    obtain ⟨_, _, _, l, _, _, s, _, _, h2⟩ := h1 i (by omega)
    rw [← hza i, sg_abs]
    exact Bd.row _ h2 2
  have hbb : ∀ i, i < Nb → Bd (ezb i).natAbs 2 := fun i hi => by
    obtain ⟨p, c, rfl, _, h1⟩ := hlb
    obtain ⟨_, _, _, l, _, _, s, _, _, h2⟩ := h1 i (by omega)
    rw [← hzb i, sg_abs]
    exact Bd.row _ h2 2
  rcases Nat.eq_zero_or_pos (tl ezb Nb) with h0 | h0
  · exact law_true (path_0 hna hza hNna hnb hzb hNnb (by rw [trimL_mk]; exact h0)) (vs := [va, vb]) ⟨arg_poly hla, arg_poly hlb, trivial⟩
  obtain ⟨nb, hnb1⟩ : ∃ nb, tl ezb Nb = nb + 1 := ⟨tl ezb Nb - 1, by omega⟩
  obtain ⟨Y, hY⟩ : ∃ L, trimL (mk Nb ezb) = L := ⟨_, rfl⟩
  obtain ⟨Z, hZ⟩ : ∃ L, trimL (mk Na eza) = L := ⟨_, rfl⟩
  obtain ⟨m, hm⟩ : ∃ m, m = Z.length - nb := ⟨_, rfl⟩
  obtain ⟨c, hce⟩ : ∃ c, ezb nb = c := ⟨_, rfl⟩
  have hYl : Y.length = nb + 1 := by rw [← hY, trimL_mk, hnb1]
  have hZl : Z.length = tl eza Na := by rw [← hZ, trimL_mk]
  have hlea := tl_le eza Na
  have hleb := tl_le ezb Nb
  have hYu : ∀ i, coef Y i = upto Nb ezb i := fun i => by rw [← hY, coef_tm]
  have hZu : ∀ i, coef Z i = upto Na eza i := fun i => by rw [← hZ, coef_tm]
  have hc0 : c ≠ 0 := by
    have := tl_last ezb Nb (by omega)
    rw [hnb1, Nat.add_sub_cancel, hce] at this
    exact this
  have hYt : coef Y nb = c := by rw [hYu, upto_lt (by omega), hce]
  have hY0 : ∀ i, nb < i → coef Y i = 0 := fun i hi => coef_out (by omega)
  have hZ0 : ∀ i, Z.length ≤ i → coef Z i = 0 := fun i hi => coef_out hi
  have hZt : 0 < Z.length → coef Z (Z.length - 1) ≠ 0 := fun h => by
    have h1 := tl_last eza Na (by omega)
    rw [hZu, upto_lt (by omega), hZl]; exact h1
  have hc : ldZ (coef Y) (nb + 1) = c := by
    have : tl (coef Y) (nb + 1) = nb + 1 := by
      unfold tl
      rw [if_neg (by rw [hYt]; exact hc0)]
    rw [ldZ, this, if_neg (by omega), Nat.add_sub_cancel, hYt]
  have hbc : Bd c.natAbs 2 := hce ▸ hbb nb (by omega)
  have hbZ := coef_bd hZ hba
  have hbY := coef_bd hY hbb
  have hpj : ∀ j, j ≤ 8 → Bd (c ^ j).natAbs 17 := fun j hj => by
    rw [Int.natAbs_pow]
    exact (Bd.powD hbc j).more (by omega)
  have hred := red_bd (n := nb) (m := m) (K := 50) hbZ hbY hbc (by omega)
  have hTT : ∀ p, p < m → (dto m m (rdT (coef Z) (coef Y) nb m c)) p = rdT (coef Z) (coef Y) nb m c p := fun p hp => by rw [dto, if_pos ⟨by omega, hp⟩]
  obtain ⟨L2, hL2⟩ : ∃ L, trimL (mk (min nb Z.length) (rdA (coef Z) (coef Y) nb m c m)) = L := ⟨_, rfl⟩
  obtain ⟨QL, hQL⟩ : ∃ L, mk m (fun p => (dto m m (rdT (coef Z) (coef Y) nb m c)) p * c ^ p) = L := ⟨_, rfl⟩
  have hQLl : QL.length = m := by rw [← hQL, mk_length]
  have hL2l : L2.length ≤ nb := by
    rw [← hL2, trimL_mk]
    exact Nat.le_trans (tl_le _ _) (Nat.min_le_left _ _)
  have hrT : ∀ p, p < m → Bd (rdT (coef Z) (coef Y) nb m c p).natAbs 50 := fun p hp => by
    have := hred.1 (m - 1 - p) (p + nb) (by omega)
    rw [rA1, show m - 1 - (m - 1 - p) = p by omega] at this
    exact this
  have hQc : ∀ p, p < m → coef QL p = rdT (coef Z) (coef Y) nb m c p * c ^ p := fun p hp => by
    rw [← hQL, coef_mk, if_pos hp, hTT p hp]
  have hRc : ∀ p, p < nb → coef L2 p = rdR (coef Z) (coef Y) nb m c m p := fun p hp => by
    rw [← hL2, coef_tm]
    unfold upto
    by_cases h1 : p < min nb Z.length
    · rw [if_pos h1]
      exact rdA_mid (Nat.le_refl _) (by omega) (by omega)
    · rw [if_neg h1, show m = 0 by omega]
      exact (hZ0 p (by omega)).symm
  have hrq : ∀ p, p < nb → rq (fun i => ((coef Z i * c ^ m : Int) : Rat)) (fun i => ((coef Y i : Int) : Rat)) nb m m p = ((coef L2 p : Int) : Rat) := fun p hp => by
    rw [rq_z hYt hc0 (Nat.le_refl _), Nat.sub_self, Int.pow_zero, Int.mul_one, hRc p hp]
  have hqq : ∀ p, p < m → rqQ (fun i => ((coef Z i * c ^ m : Int) : Rat)) (fun i => ((coef Y i : Int) : Rat)) nb m p = ((coef QL p : Int) : Rat) := fun p hp => by
    have hc' : ((c : Int) : Rat) ≠ 0 := fun e => hc0 (by exact_mod_cast e)
    rw [rqQ, if_pos hp, rq_z hYt hc0 (by omega), hYt, hQc p hp, rdT_is hp, show m - (m - 1 - p) = p + 1 by omega, Int.pow_succ, ← Int.mul_assoc, Rat.intCast_mul _ c, Rat.div_def, Rat.mul_assoc, Rat.mul_inv_cancel _ hc', Rat.mul_one]
  have hnum : ∀ t : Int, ((t : Int) : Rat).num = t := fun t => rfl
  refine law_true (path_1 (c := c) (m := m) hna hza hNna hnb hzb hNnb (by rw [hY]; exact hYl) hY hYl (by omega) hZ (by omega) (by rw [hZ]) hm hc (by rw [hY]; exact hYt) (fun j hj => (hpj j (by omega)).more (by omega)) hred.1 hred.2 hL2 ?_ hQL (by omega) (by omega) ?_ ?_ ?_ ?_ ?_ ?_ ?_ ?_ ?_ ?_ ?_) (vs := [va, vb]) ⟨arg_poly hla, arg_poly hlb, trivial⟩
  · intro j hj
    rw [psQ, if_pos (by omega), hTT j hj, Int.natAbs_mul]
    exact (Bd.mul (hrT j hj) (hpj j (by omega))).more (by omega)
  · intro j hj i _
    rw [hZ, Int.natAbs_mul, Int.natAbs_mul]
    exact (Bd.mul (Bd.mul (hbZ i) (hpj j (by omega))) hbc).more (by omega)
  · intro j hj
    rw [hZ]
    have hn : ∀ i, coef (trimL (mk Z.length fun i => coef Z i * c ^ j * c)) i = coef Z i * c ^ (j + 1) := fun i => by
      rw [coef_tm]
      unfold upto
      split
      · rw [Int.pow_succ, ← Int.mul_assoc]
      · rw [hZ0 i (by omega), Int.zero_mul]
    refine ⟨?_, fun i _ => hn i⟩
    rw [trimL_mk]
    refine tl_is (Nat.le_refl _) (fun p _ _ => by omega) fun h => ?_
    exact Int.mul_ne_zero (Int.mul_ne_zero (hZt h) (Int.pow_ne_zero hc0)) hc0
  · intro i
    rw [hZ, Int.natAbs_mul]
    exact (Bd.mul (hbZ i) (hpj m (by omega))).more (by omega)
  · rw [hY]; exact hbY
  · rw [hZ]
    have : Z.length - nb ≤ 8 := by omega
    omega
  · intro i hi
    rw [hZ] at hi ⊢
    rw [hZ0 i hi, Int.zero_mul]
  · intro h
    rw [hZ] at h ⊢
    exact Int.mul_ne_zero (hZt h) (Int.pow_ne_zero hc0)
  · rw [hY]; exact hY0
  · rw [hY, hYt]; exact hc0
  · rw [hZ, hY, ← hm, hQLl]
    refine ⟨tl_is (Nat.le_refl _) (fun p _ _ => by omega) fun h => ?_, fun i hi => hqq i hi⟩
    rw [hqq _ (by omega), hnum, hQc _ (by omega), rdT_is (by omega), show m - 1 - (m - 1) = 0 by omega, show m - 1 + nb = Z.length - 1 by omega]
    exact Int.mul_ne_zero (hZt (by omega)) (Int.pow_ne_zero hc0)
  · rw [hZ, hY, ← hm]
    refine ⟨tl_is hL2l (fun p h1 h2 => ?_) fun h => ?_, fun i hi => hrq i (by omega)⟩
    · rw [hrq p h2, hnum]; exact coef_out h1
    · rw [hrq _ (by omega), hnum]
      have h1 := tl_last (coef L2) L2.length
      have h2 : tl (coef L2) L2.length = L2.length := by rw [← hL2]; exact tl_trim _
      rw [h2] at h1
      exact h1 h
set_option maxRecDepth 100000 in
theorem lifted (os : Os) (started : os.Started) (H : Type) (enc : TypeId × Value → H) :
    ReturnsInHanded {} Tryz.checked os 5 .any (Rows.pdivPseudosSpec.pre6 enc Tryz.prog Tryz.f5 Rows.pdivPseudosRow.domain false) (Rows.pdivPseudosSpec.post enc Tryz.prog Tryz.f5 false true false false) := by
  refine returnsInHanded_of_change (C := Tryz.checked) Tryz.own started (by kernel_rfl) Tryz.func5
    (ChangeSpec.witness6 (enc := enc) (C := Tryz.checked) false ⟨#[], #[.slice none 0 0, .slice none 0 0], []⟩ 8 (by kernel_rfl) (by kernel_rfl) (by kernel_rfl) (by kernel_rfl)) ?_
  intro W base args ds gs before hval0 hW _ _
  have hval : ∀ (j : Nat) t v, Tryz.f5.params[j]? = some t → args[j]? = some v → Value.okWide Tryz.prog W .any base t v := hval0
  obtain ⟨p, q, hA0, hV, rfl, _, _⟩ := id hW
  have hA : DataW.TrodAll enc Tryz.prog W 0 (fun _ => true) true Tryz.f5.params.toList args.toList ds p := hA0
  rw [Tryz.params5] at hA hval
  obtain ⟨v0, vs0, d0, ds0, p0, q0, hargs, rfl, rfl, h0, r0⟩ := trodAll_cons hA
  obtain ⟨v1, vs1, d1, ds1, p1, q1, rfl, rfl, rfl, h1, r1⟩ := trodAll_cons r0
  obtain ⟨rfl, rfl, rfl⟩ := trodAll_nil r1
  obtain rfl : args = #[v0, v1] := by cases args; simp_all
  obtain ⟨n0, a0, xs0, l0, s0⟩ := poly_of_trod h0 (hval 0 23 v0 rfl rfl)
  obtain ⟨n1, a1, xs1, l1, s1⟩ := poly_of_trod h1 (hval 1 23 v1 rfl rfl)
  refine (walk l0 s0 l1 s1).mono fun e W' ⟨he, hg⟩ => ?_
  subst he
  refine ⟨_, rfl, law_post Tryz.laidOut rfl (by kernel_rfl) Tryz.underlying4 ?_ ?_ hW hg⟩
  · rw [Tryz.params5]; decide +kernel
  · rw [Tryz.params5]
    intro ds h
    match ds, h with
    | [_, _], _ => rfl

theorem holds : Rows.PdivPseudosSaid :=
  OpenClaim.holds_of_wide 5 Tryz.f5 rfl rfl rfl rfl rfl rfl rfl ⟨rfl, rfl, rfl, rfl, rfl⟩ rfl rfl rfl rfl rfl (by kernel_rfl) Tryz.func5 (by kernel_rfl)
    (of_decide_eq_true (by kernel_rfl)) (by unfold Func.isWrapper; first | (rw [if_pos (by decide +kernel)]; kernel_rfl) | (rw [if_neg (by decide +kernel)]; exact ⟨rfl, rfl⟩))
    (fun os started H enc _ => lifted os started H enc)


end Go.Proofs.YteblgmjpociffaaGreat.vpseudos
