/- PolyAlls holds: for every polynomials, number and ints the law returns true and leaves them as they were. No condition. -/
import Derived.Test.YteblgmjpociffaaPolP
import Derived.Test.YteblgmjpociffaaPolQ
import Derived.Test.YteblgmjpociffaaPolY
import Derived.Test.YteblgmjpociffaaPolI
import Derived.Test.YteblgmjpociffaaPolF
import Derived.Test.YteblgmjpociffaaRowP
namespace Go.Proofs.Yteblgmjpociffaa.palls
open Go.ChangeShapes Go.WideShapes Go.ChangeAt Go.RowKit
open Go.Proofs.Yteblgmjpociffaa.Sym hiding val run start
section
variable {P : Program} {Φ : Nat → World → Value → Prop} {p x : Nat} {a b : Int}
theorem qMinC {c : Int} (hp : ∀ w v, Φ p w v → v = .int .i64 a) (hc : (if b < a then b else a) = c) (hx : Φ x = fun _ v => v = .int .i64 c) : SiteOk Φ P ⟨0, [.fact p, .lit (.ci .i64 b)], [⟨.one .i, [(0, 0, x)]⟩], .quiet (mMax .min)⟩ := fun X w ac o xs _ hm ha => by
  obtain ⟨args, ts, ho, rfl⟩ := mMax_op hm
  obtain ⟨u, v, huv⟩ : ∃ u v, args.toList.map ac.eval = [u, v] := by
    match args.toList.map ac.eval, ha with
    | [u, v], _ => exact ⟨u, v, rfl⟩
  rw [huv] at ha
  obtain ⟨y, z, rfl, h1, h2⟩ := list2 huv
  have e1 := hp _ _ (ha.1 w (Off.refl _ _))
  have e2 : v = .int .i64 b := ha.2.1
  refine ⟨.int .i64 c, w, ?_, grown_refl w none, one_out (int_is c) hx fun _ _ => rfl⟩
  unfold execOp
  simp [ho, resolve, invoke, builtin, h1, h2, e1, e2, run_min_int2, hc]
end
/-- The i-th of the polynomials that came in. -/
def PRaw (al : Nat → Nat → Bool) (xl : Nat → Nat → List Nat) (ml : Nat → Nat) (i : Nat) (w : World) (v : Value) : Prop := ∃ s, v = .agg #[s] ∧ Rw 2 (fun j w v => RawI w v (al i j) (xl i j)) (ml i) w s
theorem one_ltP {k : Nat} (h : 1 ≤ k) : Bd 1 k := Nat.one_lt_pow (by omega) (by omega)
section
variable {Φ : Nat → World → Value → Prop} {p q x r n m n0 n1 k k1 l K : Nat} {z y : Nat → Int} {c : Int} {ML X L : List Int} {zz : Nat → Nat → Int} {ln : Nat → Nat}
theorem derivePR (hp : Φ p = fun w v => PRow zz ln k n w v) (hq : ∀ w v, Φ q w v → Rw 2 (fun i w v => IntV w v (zz n i) k) (ln n) w v) (Y : Nat → Prop) (w : World) (v : Value) (h : (Arg.parts (.agg [.s]) [(0, 1, q)]).ok Φ Y w v) : (Arg.fact p).ok Φ Y w v := fun w1 hw => by
  rw [hp]
  obtain ⟨⟨vs, rfl, h1⟩, h2⟩ := h
  match vs, h1 with
  | [s], _ => exact ⟨s, rfl, hq _ _ (h2 (0, 1, q) (List.mem_singleton.2 rfl) w1 hw)⟩
theorem sPROf0 (hx : Φ x = fun w v => Rw 4 (fun i w v => DecQ w v ((coef [] i : Int) : Rat) 20) 0 w v) : SiteOk Φ Try.prog ⟨25, [.lit .nl], [⟨.one .s, [(0, 0, x)]⟩], false⟩ := by
  refine viaG (sPROf (L := []) (Φ := ph [fun w v => Rw 1 (fun i _ v => v = .agg #[.int .i64 ((fun _ => (0 : Int)) i)]) 0 w v, fun w v => Rw 4 (fun i w v => DecQ w v ((coef [] i : Int) : Rat) 6) 0 w v]) (p := 0) (x := 1) (z := fun _ => 0) (n := 0) (fun _ _ h => h) rfl (by omega) (fun _ => by decide) rfl) ⟨fun w => Rw.nil 1 (fun i _ v => v = .agg #[.int .i64 ((fun _ => (0 : Int)) i)]) w, trivial⟩ ⟨⟨rfl, ⟨rfl, rfl, fun w v h => ?_⟩, trivial⟩, trivial⟩
  have h : Rw 4 (fun i w v => DecQ w v ((coef [] i : Int) : Rat) 6) 0 w v := h
  rw [hx]
  exact Rw.to h fun i w v hi _ => absurd hi (by omega)
theorem sRAddI (hp : ∀ w v, Φ p w v → Rw 4 (fun i w v => DecQ w v ((z i : Int) : Rat) k) n w v) (hq : ∀ w v, Φ q w v → Rw 4 (fun i w v => DecQ w v ((y i : Int) : Rat) k1) m w v) (hx : Φ x = fun w v => Rw 4 (fun i w v => DecQ w v ((coef L i : Int) : Rat) K) L.length w v)
    (hn : n ≤ 1000) (hm : m ≤ 1000) (hk : k ≤ 8000) (hk1 : k1 ≤ 8000) (hk0 : 1 ≤ k) (hk10 : 1 ≤ k1) (hK : 1 ≤ K ∧ K ≤ 8000) (hb : ∀ i, i < max n m → Bd (upto n z i + upto m y i).natAbs K) (hL : trimL (mk (max n m) (fun i => upto n z i + upto m y i)) = L) :
    SiteOk Φ Try.prog ⟨10, [.fact p, .fact q], [⟨.one .s, [(0, 0, x)]⟩], false⟩ := by
  have e : ∀ i, aQ (fun i => ((z i : Int) : Rat)) n (fun i => ((y i : Int) : Rat)) m i = ((upto n z i + upto m y i : Int) : Rat) := fun i => by
    rw [aQ, uptoQ, uptoQ, Rat.intCast_add]
    unfold upto
    congr 1 <;> split <;> rfl
  have hl : tl (fun i => (aQ (fun i => ((z i : Int) : Rat)) n (fun i => ((y i : Int) : Rat)) m i).num) (max n m) = L.length := by
    rw [← hL, trimL_mk]
    exact tl_congr fun i _ => by rw [e]; rfl
  refine viaG (sRAddP (Φ := ph [fun w v => Rw 4 (fun i w v => DecQ w v ((z i : Int) : Rat) k) n w v, fun w v => Rw 4 (fun i w v => DecQ w v ((y i : Int) : Rat) k1) m w v, fun w v => Rw 4 (fun i w v => DecQ w v (aQ (fun i => ((z i : Int) : Rat)) n (fun i => ((y i : Int) : Rat)) m i) K) L.length w v]) (p := 0) (y := 1) (x := 2) (fun _ _ h => h) (fun _ _ h => h) rfl (by omega) (by omega) hk hk1 hk0 hk10 (by omega) (fun i hi => by rw [e]; exact ⟨hb i hi, one_ltP hK.1⟩) hl) ⟨hp, hq, trivial⟩ ⟨⟨rfl, ⟨rfl, rfl, fun w v h => ?_⟩, trivial⟩, trivial⟩
  have h : Rw 4 (fun i w v => DecQ w v (aQ (fun i => ((z i : Int) : Rat)) n (fun i => ((y i : Int) : Rat)) m i) K) L.length w v := h
  rw [hx]
  exact Rw.to h fun i w v hi h => DecQ.eq h (by
    rw [← hL, trimL_mk] at hi
    have := tl_le (fun i => upto n z i + upto m y i) (max n m)
    rw [e, ← hL, coef_trim, coef_mk, if_pos (by omega)])
theorem sRScaleJ (hp : ∀ w v, Φ p w v → Rw 4 (fun i w v => DecQ w v ((z i : Int) : Rat) k) n w v) (hy : ∀ w v, Φ q w v → DecQ w v (qOf c 1) l) (hx : Φ x = fun w v => Rw 4 (fun i w v => DecQ w v ((coef X i : Int) : Rat) K) X.length w v) (hn : n ≤ 1000) (hk : k ≤ 8000) (hl : l ≤ 8000) (hK : K ≤ 8000) (hK1 : 1 ≤ K) (hB : ∀ i, i < n → Bd (z i * c).natAbs K) (hX : trimL (mk n fun i => z i * c) = X) : SiteOk Φ Try.prog ⟨31, [.fact p, .fact q], [⟨.one .s, [(0, 0, x)]⟩], false⟩ := by
  have e : ∀ i, ((z i : Int) : Rat) * qOf c 1 = ((z i * c : Int) : Rat) := fun i => by rw [qOf_int, Rat.intCast_mul]
  have hl' : tl (fun i => (((z i : Int) : Rat) * qOf c 1).num) n = X.length := by
    rw [← hX, trimL_mk]
    exact tl_congr fun i _ => by rw [e]; rfl
  refine viaG (sRScaleP (Φ := ph [fun w v => Rw 4 (fun i w v => DecQ w v ((z i : Int) : Rat) k) n w v, fun w v => DecQ w v (qOf c 1) l, fun w v => Rw 4 (fun i w v => DecQ w v (((z i : Int) : Rat) * qOf c 1) K) X.length w v]) (p := 0) (y := 1) (x := 2) (fun _ _ h => h) (fun _ _ h => h) rfl (by omega) hk hl (by omega) (fun i hi => by rw [e]; exact ⟨hB i hi, one_ltP hK1⟩) hl') ⟨hp, hy, trivial⟩ ⟨⟨rfl, ⟨rfl, rfl, fun w v h => ?_⟩, trivial⟩, trivial⟩
  have h : Rw 4 (fun i w v => DecQ w v (((z i : Int) : Rat) * qOf c 1) K) X.length w v := h
  rw [hx]
  exact Rw.to h fun i w v hi h => DecQ.eq h (by
    rw [← hX, trimL_mk] at hi
    have := tl_le (fun i => z i * c) n
    rw [e, ← hX, coef_trim, coef_mk, if_pos (by omega)])
theorem cvSQ_int : ∀ j i, cvSQ (fun i => ((z i : Int) : Rat)) (fun i => ((y i : Int) : Rat)) m j i = ((cvS z y m j i : Int) : Rat)
  | 0, _ => rfl
  | j + 1, i => by
    rw [cvSQ, cvS, cvSQ_int j i, Rat.intCast_add]
    congr 1
    split
    · rw [Rat.intCast_mul]
    · rfl
theorem cvIQ_int (j i p : Nat) : cvIQ (fun i => ((z i : Int) : Rat)) (fun i => ((y i : Int) : Rat)) m j i p = ((cvI z y m j i p : Int) : Rat) := by
  rw [cvIQ, cvI, cvSQ_int, Rat.intCast_add]
  congr 1
  split
  · rw [Rat.intCast_mul]
  · rfl
theorem sRMulI (hp : ∀ w v, Φ p w v → Rw 4 (fun i w v => DecQ w v ((z i : Int) : Rat) k) n w v) (hq : ∀ w v, Φ q w v → Rw 4 (fun i w v => DecQ w v ((y i : Int) : Rat) k1) m w v) (hx : Φ x = fun w v => Rw 4 (fun i w v => DecQ w v ((coef ML i : Int) : Rat) K) ML.length w v)
    (hn : n ≤ 1000) (hm : m ≤ 1000) (hk : k ≤ 8000) (hk1 : k1 ≤ 8000) (hK : K ≤ 8000) (hK1 : 1 ≤ K) (htz : tl z n = n) (hty : tl y m = m) (hb : ∀ j i p, j < n → i ≤ m → Bd (cvI z y m j i p).natAbs K) (hML : mulL z n y m = ML) :
    SiteOk Φ Try.prog ⟨15, [.fact p, .fact q], [⟨.one .s, [(0, 0, x)]⟩], false⟩ := by
  have hl : (if n = 0 ∨ m = 0 then 0 else tl (fun i => (cvSQ (fun i => ((z i : Int) : Rat)) (fun i => ((y i : Int) : Rat)) m n i).num) (n + m - 1)) = ML.length := by
    split
    · rename_i h
      rw [← hML, mulL, htz, hty, if_pos h]; rfl
    · rename_i h
      have e : ML = mk (n + m - 1) (cvS z y m n) := by rw [← hML, mulL, htz, hty, if_neg h]
      have h1 : trimL ML = ML := trimL_of (hML ▸ mulL_nrm _ _ _ _)
      have h2 := congrArg List.length h1
      rw [trimL_length] at h2
      have h3 : ML.length = n + m - 1 := by rw [e, mk_length]
      rw [← h2, h3]
      exact tl_congr fun i hi => by
        rw [cvSQ_int, e, coef_mk, if_pos hi]; rfl
  refine viaG (sRMulP (Φ := ph [fun w v => Rw 4 (fun i w v => DecQ w v ((z i : Int) : Rat) k) n w v, fun w v => Rw 4 (fun i w v => DecQ w v ((y i : Int) : Rat) k1) m w v, fun w v => Rw 4 (fun i w v => DecQ w v (cvSQ (fun i => ((z i : Int) : Rat)) (fun i => ((y i : Int) : Rat)) m n i) K) ML.length w v]) (p := 0) (y := 1) (x := 2) (fun _ _ h => h) (fun _ _ h => h) rfl (by omega) (by omega) hk hk1 hK hK1 (fun j i p hj hi => by rw [cvIQ_int]; exact ⟨hb j i p hj hi, one_ltP hK1⟩) hl) ⟨hp, hq, trivial⟩ ⟨⟨rfl, ⟨rfl, rfl, fun w v h => ?_⟩, trivial⟩, trivial⟩
  have h : Rw 4 (fun i w v => DecQ w v (cvSQ (fun i => ((z i : Int) : Rat)) (fun i => ((y i : Int) : Rat)) m n i) K) ML.length w v := h
  rw [hx]
  exact Rw.to h fun i w v hi h => DecQ.eq h (by
    rw [cvSQ_int, ← hML, mulL, htz, hty]
    split
    · rename_i h0
      rw [← hML, mulL, htz, hty, if_pos h0] at hi
      exact absurd hi (by simp)
    · rename_i h0
      rw [← hML, mulL, htz, hty, if_neg h0, mk_length] at hi
      rw [coef_mk, if_pos hi])
end
def b_path_a (al : Nat → Nat → Bool) (xl : Nat → Nat → List Nat) (ez : Nat → Nat → Int) (ml Nn : Nat → Nat) (nl M : Nat) (ac : Bool) (xc : List Nat) (cz : Int) (kz : Nat → Int) (nk nk' : Nat) : List (World → Value → Prop) := [fun w v => Rw 1 (PRaw al xl ml) nl w v, fun w v => RawI w v ac xc, fun w v => Rw 1 (fun i _ v => v = .agg #[.int .i64 (kz i)]) nk w v, fun w v => RawI w v ac (xc.take 3), fun w v => IntV w v cz 3, fun w v => Rw 4 (fun ι w v => DecQ w v ((((coef (sumP ez Nn 0)) ι : Int) : Rat)) 20) ((sumP ez Nn 0).length) w v, fun _ v => v = .int .i64 1, fun w v => Rw 1 (fun i _ v => v = .agg #[.int .i64 ((fun _ => 1) i)]) 1 w v, fun w v => Rw 4 (fun ι w v => DecQ w v ((((coef (prodP ez Nn 0)) ι : Int) : Rat)) 6) ((prodP ez Nn 0).length) w v, fun w v => ArrP 23 ez Nn 2 M w v, fun w v => Rw 4 (fun ι w v => DecQ w v ((((coef (sumP ez Nn M)) ι : Int) : Rat)) 20) (sumP ez Nn M).length w v, fun w v => Rw 4 (fun ι w v => DecQ w v ((((coef (prodP ez Nn M)) ι : Int) : Rat)) 130) (prodP ez Nn M).length w v, fun _ v => v = .int .i64 ((nk : Nat) : Int), fun _ v => v = .int .i64 ((nk' : Nat) : Int), fun w v => Rw 1 (fun i _ v => v = .agg #[.int .i64 (kz i)]) nk' w v, fun w v => DecI w v cz 3, fun w v => DecI w v (1 : Int) 2, fun w v => DecQ w v (qOf cz (1 : Int)) (3 + 2 + 2), fun w v => DecI w v ((qOf cz (1 : Int)).num) (3 + 2 + 2), fun w v => DecI w v ((qOf cz (1 : Int)).den : Int) (3 + 2 + 2), fun w v => Rw 2 (fun ι w v => NorV w v ((coef (sumP ez Nn M)) ι) (M * (2 + 1))) ((sumP ez Nn M).length) w v, fun w v => Rw 2 (fun ι w v => NorV w v ((coef (prodP ez Nn M)) ι) (2 + M * (2 + 21 + 1))) ((prodP ez Nn M).length) w v, fun w v => Rw 4 (fun ι w v => DecQ w v ((((coef (trimL (mk (prodP ez Nn M).length fun i => coef (prodP ez Nn M) i * cz))) ι : Int) : Rat)) 130) ((trimL (mk (prodP ez Nn M).length fun i => coef (prodP ez Nn M) i * cz)).length) w v, fun w v => Rw 2 (fun ι w v => NorV w v ((coef (prodP ez Nn M)) ι) (2 + M * (2 + 21 + 1))) ((prodP ez Nn M).length) w v, fun w v => Rw 2 (fun ι w v => NorV w v ((coef (trimL (mk (prodP ez Nn M).length fun i => coef (prodP ez Nn M) i * cz))) ι) ((2 + M * (2 + 21 + 1)) + 3)) (trimL (mk (prodP ez Nn M).length fun i => coef (prodP ez Nn M) i * cz)).length w v, fun w v => Rw 4 (fun ι w v => DecQ w v ((((coef (trimL (mk nk' kz))) ι : Int) : Rat)) 6) ((trimL (mk nk' kz)).length) w v, fun w v => Rw 2 (fun ι w v => NorV w v ((coef (trimL (mk nk' kz))) ι) 2) ((trimL (mk nk' kz)).length) w v]
def l_path_a_1 (al : Nat → Nat → Bool) (xl : Nat → Nat → List Nat) (ez : Nat → Nat → Int) (ml Nn : Nat → Nat) (nl : Nat) (j : Nat) : List (World → Value → Prop) := [fun _ v => v = .int .i64 ((j : Nat) : Int), fun w v => ArrP 23 ez Nn 2 j w v, fun _ _ => True, fun w v => Rw 4 (fun ι w v => DecQ w v ((((coef (sumP ez Nn j)) ι : Int) : Rat)) 20) (sumP ez Nn j).length w v, fun w v => Rw 4 (fun ι w v => DecQ w v ((((coef (prodP ez Nn j)) ι : Int) : Rat)) 130) (prodP ez Nn j).length w v, fun _ v => v = .int .i64 ((nl : Nat) : Int), fun w v => Ptr 1 (PRaw al xl ml j) w v, fun w v => Rw 2 (fun ι w v => RawI w v (al j ι) (xl j ι)) (ml j) w v, fun w v => Rw 2 (fun ι w v => KI w v (al j ι) ((xl j ι).take 2) (ez j ι) 2) (Nn j) w v, fun w v => Rw 4 (fun ι w v => DecQ w v ((((coef (trimL (mk (Nn j) (ez j)))) ι : Int) : Rat)) (2 + 2 + 2)) ((trimL (mk (Nn j) (ez j))).length) w v, fun w v => PRow ez Nn 2 j w v, fun w v => ArrP 23 ez Nn 2 (j + 1) w v, fun w v => Rw 4 (fun ι w v => DecQ w v ((((coef (sumP ez Nn (j + 1))) ι : Int) : Rat)) 20) ((sumP ez Nn (j + 1)).length) w v, fun w v => Rw 4 (fun ι w v => DecQ w v ((((coef (prodP ez Nn (j + 1))) ι : Int) : Rat)) 130) ((prodP ez Nn (j + 1)).length) w v, fun _ v => v = .int .i64 (((j + 1) : Nat) : Int), fun _ v => v = .int .i64 ((nl : Nat) : Int)]
def d_path_a_1 : LoopD := ⟨[0, 1, 2, 4, 6, 14, 15, 16, 17, 18], [(.slot 10, .i), (.slot 9, .s), (.slot 7, .s), (.slot 8, .s)], [(.one 0, 27), (.one 1, .at [1] 28), (.one 1, .lo 1), (.one 2, 30), (.one 3, .at [2] 31)], [.closed (.one (.ci .i64 0)), .closed (.one (.nl)), .from 0, .from 5, .from 8], 27, [(28, 9), (30, 10), (31, 11)]⟩
def r_path_a_1_0 : List Step := [.base ⟨0, [.fact 0], [⟨.one (.i), [(0, 0, 32)]⟩], .quiet (mLen 39)⟩,
      .base ⟨0, [.fact 27, .fact 32], [⟨.one (.lit (.cb true)), []⟩], .quiet (mBin .lss)⟩,
      .base ⟨0, [.fact 27, .lit (.ci .i64 4)], [⟨.one (.lit (.cb true)), []⟩], .quiet (mBin .lss)⟩,
      .base ⟨0, [.fact 0, .fact 27], [⟨.one (.p), [(0, 0, 33)]⟩], .quiet (mIdx 39)⟩,
      .base ⟨0, [.fact 33], [⟨.one (.s), [(0, 0, 34)]⟩], .quiet (mLoad 23)⟩,
      .base ⟨6, [.fact 34, .lit (.ci .i64 5), .lit (.ci .i64 2)], [⟨.one (.s), [(0, 0, 35)]⟩, ⟨.one (.s), [(0, 0, 36)]⟩], true⟩,
      .derive (.agg [.s 26 0]) (.agg [.s]) [(0, 1, 35)] 37,
      .base ⟨0, [.fact 28, .row 1 [37]], [⟨.one (.s), [(0, 0, 38)]⟩], .loose [] 1 0 (mApp 39 39)⟩,
      .base ⟨10, [.fact 30, .fact 36], [⟨.one (.s), [(0, 0, 39)]⟩], false⟩,
      .base ⟨15, [.fact 31, .fact 36], [⟨.one (.s), [(0, 0, 40)]⟩], .callJ [2] false⟩,
      .base ⟨0, [.fact 27, .lit (.ci .i64 1)], [⟨.one (.i), [(0, 0, 41)]⟩], .quiet (mBin .add)⟩]
def o_path_a_1 : List Step := [.base ⟨0, [.fact 0], [⟨.one (.i), [(0, 0, 42)]⟩], .quiet (mLen 39)⟩,
      .base ⟨0, [.fact 27, .fact 42], [⟨.one (.lit (.cb false)), []⟩], .quiet (mBin .lss)⟩]
def ss_path_a : List Step := [.base ⟨24, [.fact 1, .lit (.ci .i64 3)], [⟨.agg [.b, .s], [(0, 0, 3), (0, 0, 4)]⟩], false⟩,
      .derive (.one (.ci .i64 1)) (.one (.lit (.ci .i64 1))) [] 6,
      .base ⟨25, [.lit .nl], [⟨.one (.s), [(0, 0, 5)]⟩], false⟩,
      .base ⟨0, [.any, .fact 6], [⟨.one (.s), [(0, 0, 7)]⟩], .loose [] 2 0 (mRow 40 1)⟩,
      .base ⟨25, [.fact 7], [⟨.one (.s), [(0, 0, 8)]⟩], .callJ [2] false⟩,
      .loop d_path_a_1 [(r_path_a_1_0, [.from 41, .from 38, .from 0, .from 39, .from 40])] o_path_a_1,
      .base ⟨0, [.fact 2], [⟨.one (.i), [(0, 0, 12)]⟩], .quiet (mLen 40)⟩,
      .base ⟨0, [.fact 12, .lit (.ci .i64 12)], [⟨.one (.i), [(0, 0, 13)]⟩], .quiet (mMax .min)⟩,
      .base ⟨0, [.fact 2, .fact 13], [⟨.one (.s), [(0, 0, 14)]⟩], .quiet (mTo' 40)⟩,
      .base ⟨27, [.fact 4], [⟨.agg [.s, .b], [(0, 0, 15)]⟩], false⟩,
      .base ⟨28, [.lit (.ci .i64 1)], [⟨.agg [.s, .b], [(0, 0, 16)]⟩], false⟩,
      .base ⟨26, [.fact 15, .fact 16], [⟨.agg [.s, .b, .s, .b], [(0, 0, 17), (0, 2, 18), (2, 2, 19)]⟩], false⟩,
      .base ⟨29, [.fact 9], [⟨.one (.s), [(0, 0, 20)]⟩], .callJ [1] false⟩,
      .base ⟨9, [.fact 10, .fact 20], [⟨.one (.lit (.cb true)), []⟩], .callJ [1] false⟩,
      .base ⟨30, [.fact 9], [⟨.one (.s), [(0, 0, 21)]⟩], .callJ [1] false⟩,
      .base ⟨9, [.fact 11, .fact 21], [⟨.one (.lit (.cb true)), []⟩], .callJ [1, 2] false⟩,
      .base ⟨31, [.fact 11, .fact 17], [⟨.one (.s), [(0, 0, 22)]⟩], .callJ [2] false⟩,
      .base ⟨30, [.fact 9], [⟨.one (.s), [(0, 0, 23)]⟩], .callJ [1] false⟩,
      .base ⟨32, [.fact 23, .fact 4], [⟨.one (.s), [(0, 0, 24)]⟩], .callJ [1] false⟩,
      .base ⟨9, [.fact 22, .fact 24], [⟨.one (.lit (.cb true)), []⟩], .callJ [1, 2] false⟩,
      .base ⟨25, [.fact 14], [⟨.one (.s), [(0, 0, 25)]⟩], false⟩,
      .base ⟨33, [.fact 14], [⟨.one (.s), [(0, 0, 26)]⟩], false⟩,
      .base ⟨9, [.fact 25, .fact 26], [⟨.one (.lit (.cb true)), []⟩], false⟩,
      .base ⟨23, [], [⟨.one (.lit (.cb true)), []⟩], false⟩]
def ins_path_a : List Out := [⟨.one (.s), [(0, 0, 0)]⟩, ⟨.agg [.b, .s], [(0, 0, 1)]⟩, ⟨.one (.s), [(0, 0, 2)]⟩]
set_option maxHeartbeats 1000000 in
set_option maxRecDepth 100000 in
theorem path_a {al : Nat → Nat → Bool} {xl : Nat → Nat → List Nat} {ez : Nat → Nat → Int} {ml Nn : Nat → Nat} {nl M : Nat} {ac : Bool} {xc : List Nat} {cz : Int} {kz : Nat → Int} {nk nk' : Nat} (_hnl : nl ≤ 9223372036854775807) (hml : ∀ i, i < nl → ml i ≤ 9223372036854775807) (hz : ∀ i j, sg (al i j) (Proofs.Yteblgmjpociffaa.val 4294967296 ((xl i j).take 2)) = ez i j) (hNn : ∀ i, min (ml i) 5 = Nn i) (hN5 : ∀ i, Nn i ≤ 5) (hM4 : M ≤ 4) (_hMl : M ≤ nl) (hcz : sg ac (Proofs.Yteblgmjpociffaa.val 4294967296 (xc.take 3)) = cz) (hnk : nk ≤ 9223372036854775807) (hkb : ∀ i, -9223372036854775808 ≤ kz i ∧ kz i ≤ 9223372036854775807) (hnk' : min nk 12 = nk') (hSl : ∀ j, j ≤ 4 → (sumP ez Nn j).length ≤ 5) (hPl : ∀ j, j ≤ 4 → (prodP ez Nn j).length ≤ 21) (hSB : ∀ j, j < M → ∀ i, i < max (sumP ez Nn j).length (trimL (mk (Nn j) (ez j))).length → Bd (upto (sumP ez Nn j).length (coef (sumP ez Nn j)) i + upto (trimL (mk (Nn j) (ez j))).length (coef (trimL (mk (Nn j) (ez j)))) i).natAbs 20) (hSL : ∀ j, j < M → trimL (mk (max (sumP ez Nn j).length (trimL (mk (Nn j) (ez j))).length) (fun i => upto (sumP ez Nn j).length (coef (sumP ez Nn j)) i + upto (trimL (mk (Nn j) (ez j))).length (coef (trimL (mk (Nn j) (ez j)))) i)) = (sumP ez Nn (j + 1))) (hPt : ∀ j, j < M → tl (coef (prodP ez Nn j)) (prodP ez Nn j).length = (prodP ez Nn j).length) (hXt : ∀ j, j < M → tl (coef (trimL (mk (Nn j) (ez j)))) (trimL (mk (Nn j) (ez j))).length = (trimL (mk (Nn j) (ez j))).length) (hPB : ∀ j, j < M → ∀ a i p, a < (prodP ez Nn j).length → i ≤ (trimL (mk (Nn j) (ez j))).length → Bd (cvI (coef (prodP ez Nn j)) (coef (trimL (mk (Nn j) (ez j)))) (trimL (mk (Nn j) (ez j))).length a i p).natAbs 130) (hPL : ∀ j, j < M → mulL (coef (prodP ez Nn j)) (prodP ez Nn j).length (coef (trimL (mk (Nn j) (ez j)))) (trimL (mk (Nn j) (ez j))).length = (prodP ez Nn (j + 1))) (hSc : ∀ i, i < (prodP ez Nn M).length → Bd (coef (prodP ez Nn M) i * cz).natAbs 130) (hE : M = nl) : SiteOk (ph (b_path_a al xl ez ml Nn nl M ac xc cz kz nk nk')) Try.prog ⟨4, [.fact 0, .fact 1, .fact 2], [⟨.one (.lit (.cb true)), []⟩], false⟩ := by
  have hsM := hSl M (by omega); have hpM := hPl M (by omega); have hsc := trimL_mk (prodP ez Nn M).length (fun i => coef (prodP ez Nn M) i * cz); have hsc2 := tl_le (fun i => coef (prodP ez Nn M) i * cz) (prodP ez Nn M).length; have hk1 := trimL_mk nk' kz; have hk2 := tl_le kz nk'; have hs0 := hSl 0 (by omega); have hp0 := hPl 0 (by omega)
  exact fn_okL ins_path_a [⟨.one (.lit (.cb true)), []⟩] ss_path_a Try.func4 (by kernel_rfl)
    (lbase (sKIntR 3 rfl (fun _ _ h => h) rfl rfl hcz)
      (lderive (deriveZ rfl)
      (lbase (sPROf0 rfl)
      (lbase (qRowZ (a := 1) (fun _ _ h => h) rfl)
      (lbase (onJ [2] (sPROf (z := (fun _ => 1)) (n := 1) (fun _ _ h => h) rfl (by omega) (fun _ => by decide) rfl))
      (lloop (counted M (fun j => ph (b_path_a al xl ez ml Nn nl M ac xc cz kz nk nk' ++ l_path_a_1 al xl ez ml Nn nl j)) (fun _ => 0) (fun j p hp => ph_app' (show p < (b_path_a al xl ez ml Nn nl M ac xc cz kz nk nk').length from hp)) ⟨fun _ => rfl, fun w => ArrP.nil 23 ez Nn 2 w, fun _ _ _ => trivial, fun _ _ h => h, fun _ _ h => Rw.to (sz := 4) (n := (prodP ez Nn 0).length) (F := (fun ι w v => DecQ w v ((((coef (prodP ez Nn 0)) ι : Int) : Rat)) 6)) h fun i w v _ h => DecQ.more h (by omega), trivial⟩ (fun j hj => by
      have h5 := hN5 j; have hs := hSl j (by omega); have hp := hPl j (by omega); have hx := tl_le (ez j) (Nn j); have hx2 := trimL_mk (Nn j) (ez j); have hmj : ml j ≤ 9223372036854775807 := hml j (by omega)
      exact ⟨(r_path_a_1_0, [.from 41, .from 38, .from 0, .from 39, .from 40]), rfl, ⟨fun _ _ h => h, fun _ _ h => h, fun _ _ _ => trivial, fun _ _ h => h, fun _ _ h => h, trivial⟩, (lbase (qLen (sz := 1) (n := nl) (F := (PRaw al xl ml)) Try.underlying39 (fun _ _ h => Rw.arr h) rfl)
      (lbase (qTest (op := .lss) (fun _ _ h => h) (fun _ _ h => h) (ts_run (decide_eq_true (by omega)) (by simp)))
      (lbase (qTestC (op := .lss) (fun _ _ h => h) (ts_run (decide_eq_true (by omega)) (by simp)))
      (lbase (qIdx (i := j) (sz := 1) (n := nl) (F := (PRaw al xl ml)) Try.underlying39 (by kernel_rfl) (fun _ _ h => Rw.arr h) (fun _ _ h => h) (by omega) rfl)
      (lbase (qLoadP (G := fun w v => Rw 2 (fun ι w v => RawI w v (al j ι) (xl j ι)) (ml j) w v) (by kernel_rfl) (fun _ _ h => h) (fun _ _ h => by obtain ⟨p, c, e, _⟩ := h; exact ⟨_, _, _, e⟩) rfl)
      (lbase (sCut5 (a := al j) (xs := xl j) (z := ez j) (n0 := ml j) (n := Nn j) 5 2 rfl rfl (fun _ _ h => h) rfl rfl hmj (by omega) (by omega) (hz j) (hNn j))
      (lderive (derivePR (zz := ez) (ln := Nn) (k := 2) (n := j) rfl (fun _ _ h => Rw.to (sz := 2) (n := (Nn j)) (F := (fun ι w v => KI w v (al j ι) ((xl j ι).take 2) (ez j ι) 2)) h fun i w v _ h => h.2))
      (lbase (qAppP (n := j) (k := 2) (zz := ez) (ln := Nn) (fun _ _ h => h) (fun _ _ h => h) (by omega) rfl)
      (lbase (sRAddI (z := coef (sumP ez Nn j)) (y := coef (trimL (mk (Nn j) (ez j)))) (n := (sumP ez Nn j).length) (m := (trimL (mk (Nn j) (ez j))).length) (K := 20) (L := (sumP ez Nn (j + 1))) (fun _ _ h => h) (fun _ _ h => h) rfl (by omega) (by omega) (by omega) (by omega) (by omega) (by omega) (by omega) (hSB j hj) (hSL j hj))
      (lbase (onJ [2] (sRMulI (z := coef (prodP ez Nn j)) (y := coef (trimL (mk (Nn j) (ez j)))) (n := (prodP ez Nn j).length) (m := (trimL (mk (Nn j) (ez j))).length) (K := 130) (ML := (prodP ez Nn (j + 1))) (fun _ _ h => h) (fun _ _ h => h) rfl (by omega) (by omega) (by omega) (by omega) (by omega) (by omega) (hPt j hj) (hXt j hj) (hPB j hj) (hPL j hj)))
      (lbase (qAddK (fun _ _ h => h) (by omega) rfl (by omega) (by omega))
      lnil)))))))))))⟩)
      (lbase (qLen (sz := 1) (n := nl) (F := (PRaw al xl ml)) Try.underlying39 (fun _ _ h => Rw.arr h) rfl)
      (lbase (qTest (op := .lss) (fun _ _ h => h) (fun _ _ h => h) (ts_run (decide_eq_false (by omega)) (by simp)))
      lnil))
      (fun q hq w v h => by
        simp only [d_path_a_1, List.mem_cons, List.not_mem_nil, or_false] at hq
        rcases hq with rfl | rfl | rfl
        · exact (fun h => h) h
        · exact (fun h => h) h
        · exact (fun h => h) h)) (lbase (qLen (sz := 1) (n := nk) (F := (fun i _ v => v = .agg #[.int .i64 (kz i)])) Try.underlying40 (fun _ _ h => Rw.arr h) rfl)
      (lbase (qMinC (fun _ _ h => h) (by have := hnk'; split <;> omega) rfl)
      (lbase (qToA (m := nk') (n := nk) (F := (fun i _ v => v = .agg #[.int .i64 (kz i)])) Try.underlying40 (by kernel_rfl) (fun _ _ h => h) (fun _ _ h => h) (by first | omega | exact tl_le _ _) rfl)
      (lbase (tFrom iI rfl (by omega) rfl)
      (lbase (tOf (z := 1) rfl (by decide) (by decide) rfl)
      (lbase (tMake dD dD rfl rfl rfl (by omega) rfl)
      (lbase (onJ [1] (sSumP (zz := ez) (ln := Nn) (n := M) (k := 2) (fun _ _ h => ArrP.rw h) rfl (by omega) (by omega) (by omega) (fun i _ => Nat.le_trans (hN5 i) (by omega)) rfl))
      (lbase (onJ [1] (sIsP (z := (coef (sumP ez Nn M))) (n := (sumP ez Nn M).length) (k := (M * (2 + 1))) (kq := 20) (fun _ _ h => h) (fun _ _ h => h) (by omega) (by omega) (by omega)))
      (lbase (onJ [1] (sProdP (zz := ez) (ln := Nn) (n := M) (k := 2) (c := 21) (fun _ _ h => ArrP.rw h) rfl (by omega) (by omega) (by omega) (by omega) (fun i _ => Nat.le_trans (hN5 i) (by omega)) (fun j hj => hPl j (by omega)) rfl))
      (lbase (onJ [1, 2] (sIsP (z := (coef (prodP ez Nn M))) (n := (prodP ez Nn M).length) (k := (2 + M * (2 + 21 + 1))) (kq := 130) (fun _ _ h => h) (fun _ _ h => h) (by omega) (by omega) (by omega)))
      (lbase (onJ [2] (sRScaleJ (z := coef (prodP ez Nn M)) (c := cz) (n := (prodP ez Nn M).length) (K := 130) (X := (trimL (mk (prodP ez Nn M).length fun i => coef (prodP ez Nn M) i * cz))) (fun _ _ h => h) tS rfl (by omega) (by omega) (by omega) (by omega) (by omega) hSc rfl))
      (lbase (onJ [1] (sProdP (zz := ez) (ln := Nn) (n := M) (k := 2) (c := 21) (fun _ _ h => ArrP.rw h) rfl (by omega) (by omega) (by omega) (by omega) (fun i _ => Nat.le_trans (hN5 i) (by omega)) (fun j hj => hPl j (by omega)) rfl))
      (lbase (onJ [1] (sScaleP (z := (coef (prodP ez Nn M))) (n := (prodP ez Nn M).length) (fun _ _ h => Rw.to (sz := 2) (n := (prodP ez Nn M).length) (F := (fun ι w v => NorV w v ((coef (prodP ez Nn M)) ι) (2 + M * (2 + 21 + 1)))) (h) (fun i w v _ h => (fun _ _ _ h => NorV.i h) i w v h)) iI rfl (by omega) (by omega) rfl))
      (lbase (onJ [1, 2] (sIsP (z := (coef (trimL (mk (prodP ez Nn M).length fun i => coef (prodP ez Nn M) i * cz)))) (n := (trimL (mk (prodP ez Nn M).length fun i => coef (prodP ez Nn M) i * cz)).length) (k := ((2 + M * (2 + 21 + 1)) + 3)) (kq := 130) (fun _ _ h => h) (fun _ _ h => h) (by omega) (by omega) (by omega)))
      (lbase (sPROf (z := kz) (n := nk') (fun _ _ h => h) rfl (by omega) hkb rfl)
      (lbase (sPOf (z := kz) (n := nk') (fun _ _ h => h) rfl (by omega) hkb rfl)
      (lbase (sIsP (z := (coef (trimL (mk nk' kz)))) (n := (trimL (mk nk' kz)).length) (k := 2) (kq := 6) (fun _ _ h => h) (fun _ _ h => h) (by omega) (by omega) (by omega))
      (lbase (sWakes5)
      lnil))))))))))))))))))))))))
    (ins_ok [.fact 0 (.one (.s)), .fact 1 (.agg [.b, .s]), .fact 2 (.one (.s))] ⟨fun _ _ h => Rw.is (sz := 1) (F := PRaw al xl ml) (n := nl) h, fun _ _ h => RawI.is h, fun _ _ h => Rw.is (sz := 1) (F := fun i _ v => v = .agg #[.int .i64 (kz i)]) (n := nk) h, trivial⟩) (fun _ _ _ h => h)

def b_path_b (al : Nat → Nat → Bool) (xl : Nat → Nat → List Nat) (ez : Nat → Nat → Int) (ml Nn : Nat → Nat) (nl M : Nat) (ac : Bool) (xc : List Nat) (cz : Int) (kz : Nat → Int) (nk nk' : Nat) : List (World → Value → Prop) := [fun w v => Rw 1 (PRaw al xl ml) nl w v, fun w v => RawI w v ac xc, fun w v => Rw 1 (fun i _ v => v = .agg #[.int .i64 (kz i)]) nk w v, fun w v => RawI w v ac (xc.take 3), fun w v => IntV w v cz 3, fun w v => Rw 4 (fun ι w v => DecQ w v ((((coef (sumP ez Nn 0)) ι : Int) : Rat)) 20) ((sumP ez Nn 0).length) w v, fun _ v => v = .int .i64 1, fun w v => Rw 1 (fun i _ v => v = .agg #[.int .i64 ((fun _ => 1) i)]) 1 w v, fun w v => Rw 4 (fun ι w v => DecQ w v ((((coef (prodP ez Nn 0)) ι : Int) : Rat)) 6) ((prodP ez Nn 0).length) w v, fun w v => ArrP 23 ez Nn 2 M w v, fun w v => Rw 4 (fun ι w v => DecQ w v ((((coef (sumP ez Nn M)) ι : Int) : Rat)) 20) (sumP ez Nn M).length w v, fun w v => Rw 4 (fun ι w v => DecQ w v ((((coef (prodP ez Nn M)) ι : Int) : Rat)) 130) (prodP ez Nn M).length w v, fun _ v => v = .int .i64 ((nk : Nat) : Int), fun _ v => v = .int .i64 ((nk' : Nat) : Int), fun w v => Rw 1 (fun i _ v => v = .agg #[.int .i64 (kz i)]) nk' w v, fun w v => DecI w v cz 3, fun w v => DecI w v (1 : Int) 2, fun w v => DecQ w v (qOf cz (1 : Int)) (3 + 2 + 2), fun w v => DecI w v ((qOf cz (1 : Int)).num) (3 + 2 + 2), fun w v => DecI w v ((qOf cz (1 : Int)).den : Int) (3 + 2 + 2), fun w v => Rw 2 (fun ι w v => NorV w v ((coef (sumP ez Nn M)) ι) (M * (2 + 1))) ((sumP ez Nn M).length) w v, fun w v => Rw 2 (fun ι w v => NorV w v ((coef (prodP ez Nn M)) ι) (2 + M * (2 + 21 + 1))) ((prodP ez Nn M).length) w v, fun w v => Rw 4 (fun ι w v => DecQ w v ((((coef (trimL (mk (prodP ez Nn M).length fun i => coef (prodP ez Nn M) i * cz))) ι : Int) : Rat)) 130) ((trimL (mk (prodP ez Nn M).length fun i => coef (prodP ez Nn M) i * cz)).length) w v, fun w v => Rw 2 (fun ι w v => NorV w v ((coef (prodP ez Nn M)) ι) (2 + M * (2 + 21 + 1))) ((prodP ez Nn M).length) w v, fun w v => Rw 2 (fun ι w v => NorV w v ((coef (trimL (mk (prodP ez Nn M).length fun i => coef (prodP ez Nn M) i * cz))) ι) ((2 + M * (2 + 21 + 1)) + 3)) (trimL (mk (prodP ez Nn M).length fun i => coef (prodP ez Nn M) i * cz)).length w v, fun w v => Rw 4 (fun ι w v => DecQ w v ((((coef (trimL (mk nk' kz))) ι : Int) : Rat)) 6) ((trimL (mk nk' kz)).length) w v, fun w v => Rw 2 (fun ι w v => NorV w v ((coef (trimL (mk nk' kz))) ι) 2) ((trimL (mk nk' kz)).length) w v]
def l_path_b_1 (al : Nat → Nat → Bool) (xl : Nat → Nat → List Nat) (ez : Nat → Nat → Int) (ml Nn : Nat → Nat) (nl : Nat) (j : Nat) : List (World → Value → Prop) := [fun _ v => v = .int .i64 ((j : Nat) : Int), fun w v => ArrP 23 ez Nn 2 j w v, fun _ _ => True, fun w v => Rw 4 (fun ι w v => DecQ w v ((((coef (sumP ez Nn j)) ι : Int) : Rat)) 20) (sumP ez Nn j).length w v, fun w v => Rw 4 (fun ι w v => DecQ w v ((((coef (prodP ez Nn j)) ι : Int) : Rat)) 130) (prodP ez Nn j).length w v, fun _ v => v = .int .i64 ((nl : Nat) : Int), fun w v => Ptr 1 (PRaw al xl ml j) w v, fun w v => Rw 2 (fun ι w v => RawI w v (al j ι) (xl j ι)) (ml j) w v, fun w v => Rw 2 (fun ι w v => KI w v (al j ι) ((xl j ι).take 2) (ez j ι) 2) (Nn j) w v, fun w v => Rw 4 (fun ι w v => DecQ w v ((((coef (trimL (mk (Nn j) (ez j)))) ι : Int) : Rat)) (2 + 2 + 2)) ((trimL (mk (Nn j) (ez j))).length) w v, fun w v => PRow ez Nn 2 j w v, fun w v => ArrP 23 ez Nn 2 (j + 1) w v, fun w v => Rw 4 (fun ι w v => DecQ w v ((((coef (sumP ez Nn (j + 1))) ι : Int) : Rat)) 20) ((sumP ez Nn (j + 1)).length) w v, fun w v => Rw 4 (fun ι w v => DecQ w v ((((coef (prodP ez Nn (j + 1))) ι : Int) : Rat)) 130) ((prodP ez Nn (j + 1)).length) w v, fun _ v => v = .int .i64 (((j + 1) : Nat) : Int), fun _ v => v = .int .i64 ((nl : Nat) : Int)]
def d_path_b_1 : LoopD := ⟨[0, 1, 2, 4, 6, 14, 15, 16, 17, 18], [(.slot 10, .i), (.slot 9, .s), (.slot 7, .s), (.slot 8, .s)], [(.one 0, 27), (.one 1, .at [1] 28), (.one 1, .lo 1), (.one 2, 30), (.one 3, .at [2] 31)], [.closed (.one (.ci .i64 0)), .closed (.one (.nl)), .from 0, .from 5, .from 8], 27, [(28, 9), (30, 10), (31, 11)]⟩
def r_path_b_1_0 : List Step := [.base ⟨0, [.fact 0], [⟨.one (.i), [(0, 0, 32)]⟩], .quiet (mLen 39)⟩,
      .base ⟨0, [.fact 27, .fact 32], [⟨.one (.lit (.cb true)), []⟩], .quiet (mBin .lss)⟩,
      .base ⟨0, [.fact 27, .lit (.ci .i64 4)], [⟨.one (.lit (.cb true)), []⟩], .quiet (mBin .lss)⟩,
      .base ⟨0, [.fact 0, .fact 27], [⟨.one (.p), [(0, 0, 33)]⟩], .quiet (mIdx 39)⟩,
      .base ⟨0, [.fact 33], [⟨.one (.s), [(0, 0, 34)]⟩], .quiet (mLoad 23)⟩,
      .base ⟨6, [.fact 34, .lit (.ci .i64 5), .lit (.ci .i64 2)], [⟨.one (.s), [(0, 0, 35)]⟩, ⟨.one (.s), [(0, 0, 36)]⟩], true⟩,
      .derive (.agg [.s 26 0]) (.agg [.s]) [(0, 1, 35)] 37,
      .base ⟨0, [.fact 28, .row 1 [37]], [⟨.one (.s), [(0, 0, 38)]⟩], .loose [] 1 0 (mApp 39 39)⟩,
      .base ⟨10, [.fact 30, .fact 36], [⟨.one (.s), [(0, 0, 39)]⟩], false⟩,
      .base ⟨15, [.fact 31, .fact 36], [⟨.one (.s), [(0, 0, 40)]⟩], .callJ [2] false⟩,
      .base ⟨0, [.fact 27, .lit (.ci .i64 1)], [⟨.one (.i), [(0, 0, 41)]⟩], .quiet (mBin .add)⟩]
def o_path_b_1 : List Step := [.base ⟨0, [.fact 0], [⟨.one (.i), [(0, 0, 42)]⟩], .quiet (mLen 39)⟩,
      .base ⟨0, [.fact 27, .fact 42], [⟨.one (.lit (.cb true)), []⟩], .quiet (mBin .lss)⟩,
      .base ⟨0, [.fact 27, .lit (.ci .i64 4)], [⟨.one (.lit (.cb false)), []⟩], .quiet (mBin .lss)⟩]
def ss_path_b : List Step := [.base ⟨24, [.fact 1, .lit (.ci .i64 3)], [⟨.agg [.b, .s], [(0, 0, 3), (0, 0, 4)]⟩], false⟩,
      .derive (.one (.ci .i64 1)) (.one (.lit (.ci .i64 1))) [] 6,
      .base ⟨25, [.lit .nl], [⟨.one (.s), [(0, 0, 5)]⟩], false⟩,
      .base ⟨0, [.any, .fact 6], [⟨.one (.s), [(0, 0, 7)]⟩], .loose [] 2 0 (mRow 40 1)⟩,
      .base ⟨25, [.fact 7], [⟨.one (.s), [(0, 0, 8)]⟩], .callJ [2] false⟩,
      .loop d_path_b_1 [(r_path_b_1_0, [.from 41, .from 38, .from 0, .from 39, .from 40])] o_path_b_1,
      .base ⟨0, [.fact 2], [⟨.one (.i), [(0, 0, 12)]⟩], .quiet (mLen 40)⟩,
      .base ⟨0, [.fact 12, .lit (.ci .i64 12)], [⟨.one (.i), [(0, 0, 13)]⟩], .quiet (mMax .min)⟩,
      .base ⟨0, [.fact 2, .fact 13], [⟨.one (.s), [(0, 0, 14)]⟩], .quiet (mTo' 40)⟩,
      .base ⟨27, [.fact 4], [⟨.agg [.s, .b], [(0, 0, 15)]⟩], false⟩,
      .base ⟨28, [.lit (.ci .i64 1)], [⟨.agg [.s, .b], [(0, 0, 16)]⟩], false⟩,
      .base ⟨26, [.fact 15, .fact 16], [⟨.agg [.s, .b, .s, .b], [(0, 0, 17), (0, 2, 18), (2, 2, 19)]⟩], false⟩,
      .base ⟨29, [.fact 9], [⟨.one (.s), [(0, 0, 20)]⟩], .callJ [1] false⟩,
      .base ⟨9, [.fact 10, .fact 20], [⟨.one (.lit (.cb true)), []⟩], .callJ [1] false⟩,
      .base ⟨30, [.fact 9], [⟨.one (.s), [(0, 0, 21)]⟩], .callJ [1] false⟩,
      .base ⟨9, [.fact 11, .fact 21], [⟨.one (.lit (.cb true)), []⟩], .callJ [1, 2] false⟩,
      .base ⟨31, [.fact 11, .fact 17], [⟨.one (.s), [(0, 0, 22)]⟩], .callJ [2] false⟩,
      .base ⟨30, [.fact 9], [⟨.one (.s), [(0, 0, 23)]⟩], .callJ [1] false⟩,
      .base ⟨32, [.fact 23, .fact 4], [⟨.one (.s), [(0, 0, 24)]⟩], .callJ [1] false⟩,
      .base ⟨9, [.fact 22, .fact 24], [⟨.one (.lit (.cb true)), []⟩], .callJ [1, 2] false⟩,
      .base ⟨25, [.fact 14], [⟨.one (.s), [(0, 0, 25)]⟩], false⟩,
      .base ⟨33, [.fact 14], [⟨.one (.s), [(0, 0, 26)]⟩], false⟩,
      .base ⟨9, [.fact 25, .fact 26], [⟨.one (.lit (.cb true)), []⟩], false⟩,
      .base ⟨23, [], [⟨.one (.lit (.cb true)), []⟩], false⟩]
def ins_path_b : List Out := [⟨.one (.s), [(0, 0, 0)]⟩, ⟨.agg [.b, .s], [(0, 0, 1)]⟩, ⟨.one (.s), [(0, 0, 2)]⟩]
set_option maxHeartbeats 1000000 in
set_option maxRecDepth 100000 in
theorem path_b {al : Nat → Nat → Bool} {xl : Nat → Nat → List Nat} {ez : Nat → Nat → Int} {ml Nn : Nat → Nat} {nl M : Nat} {ac : Bool} {xc : List Nat} {cz : Int} {kz : Nat → Int} {nk nk' : Nat} (_hnl : nl ≤ 9223372036854775807) (hml : ∀ i, i < nl → ml i ≤ 9223372036854775807) (hz : ∀ i j, sg (al i j) (Proofs.Yteblgmjpociffaa.val 4294967296 ((xl i j).take 2)) = ez i j) (hNn : ∀ i, min (ml i) 5 = Nn i) (hN5 : ∀ i, Nn i ≤ 5) (hM4 : M ≤ 4) (_hMl : M ≤ nl) (hcz : sg ac (Proofs.Yteblgmjpociffaa.val 4294967296 (xc.take 3)) = cz) (hnk : nk ≤ 9223372036854775807) (hkb : ∀ i, -9223372036854775808 ≤ kz i ∧ kz i ≤ 9223372036854775807) (hnk' : min nk 12 = nk') (hSl : ∀ j, j ≤ 4 → (sumP ez Nn j).length ≤ 5) (hPl : ∀ j, j ≤ 4 → (prodP ez Nn j).length ≤ 21) (hSB : ∀ j, j < M → ∀ i, i < max (sumP ez Nn j).length (trimL (mk (Nn j) (ez j))).length → Bd (upto (sumP ez Nn j).length (coef (sumP ez Nn j)) i + upto (trimL (mk (Nn j) (ez j))).length (coef (trimL (mk (Nn j) (ez j)))) i).natAbs 20) (hSL : ∀ j, j < M → trimL (mk (max (sumP ez Nn j).length (trimL (mk (Nn j) (ez j))).length) (fun i => upto (sumP ez Nn j).length (coef (sumP ez Nn j)) i + upto (trimL (mk (Nn j) (ez j))).length (coef (trimL (mk (Nn j) (ez j)))) i)) = (sumP ez Nn (j + 1))) (hPt : ∀ j, j < M → tl (coef (prodP ez Nn j)) (prodP ez Nn j).length = (prodP ez Nn j).length) (hXt : ∀ j, j < M → tl (coef (trimL (mk (Nn j) (ez j)))) (trimL (mk (Nn j) (ez j))).length = (trimL (mk (Nn j) (ez j))).length) (hPB : ∀ j, j < M → ∀ a i p, a < (prodP ez Nn j).length → i ≤ (trimL (mk (Nn j) (ez j))).length → Bd (cvI (coef (prodP ez Nn j)) (coef (trimL (mk (Nn j) (ez j)))) (trimL (mk (Nn j) (ez j))).length a i p).natAbs 130) (hPL : ∀ j, j < M → mulL (coef (prodP ez Nn j)) (prodP ez Nn j).length (coef (trimL (mk (Nn j) (ez j)))) (trimL (mk (Nn j) (ez j))).length = (prodP ez Nn (j + 1))) (hSc : ∀ i, i < (prodP ez Nn M).length → Bd (coef (prodP ez Nn M) i * cz).natAbs 130) (hE : M = 4) (hE2 : M < nl) : SiteOk (ph (b_path_b al xl ez ml Nn nl M ac xc cz kz nk nk')) Try.prog ⟨4, [.fact 0, .fact 1, .fact 2], [⟨.one (.lit (.cb true)), []⟩], false⟩ := by
  have hsM := hSl M (by omega); have hpM := hPl M (by omega); have hsc := trimL_mk (prodP ez Nn M).length (fun i => coef (prodP ez Nn M) i * cz); have hsc2 := tl_le (fun i => coef (prodP ez Nn M) i * cz) (prodP ez Nn M).length; have hk1 := trimL_mk nk' kz; have hk2 := tl_le kz nk'; have hs0 := hSl 0 (by omega); have hp0 := hPl 0 (by omega)
  exact fn_okL ins_path_b [⟨.one (.lit (.cb true)), []⟩] ss_path_b Try.func4 (by kernel_rfl)
    (lbase (sKIntR 3 rfl (fun _ _ h => h) rfl rfl hcz)
      (lderive (deriveZ rfl)
      (lbase (sPROf0 rfl)
      (lbase (qRowZ (a := 1) (fun _ _ h => h) rfl)
      (lbase (onJ [2] (sPROf (z := (fun _ => 1)) (n := 1) (fun _ _ h => h) rfl (by omega) (fun _ => by decide) rfl))
      (lloop (counted M (fun j => ph (b_path_b al xl ez ml Nn nl M ac xc cz kz nk nk' ++ l_path_b_1 al xl ez ml Nn nl j)) (fun _ => 0) (fun j p hp => ph_app' (show p < (b_path_b al xl ez ml Nn nl M ac xc cz kz nk nk').length from hp)) ⟨fun _ => rfl, fun w => ArrP.nil 23 ez Nn 2 w, fun _ _ _ => trivial, fun _ _ h => h, fun _ _ h => Rw.to (sz := 4) (n := (prodP ez Nn 0).length) (F := (fun ι w v => DecQ w v ((((coef (prodP ez Nn 0)) ι : Int) : Rat)) 6)) h fun i w v _ h => DecQ.more h (by omega), trivial⟩ (fun j hj => by
      have h5 := hN5 j; have hs := hSl j (by omega); have hp := hPl j (by omega); have hx := tl_le (ez j) (Nn j); have hx2 := trimL_mk (Nn j) (ez j); have hmj : ml j ≤ 9223372036854775807 := hml j (by omega)
      exact ⟨(r_path_b_1_0, [.from 41, .from 38, .from 0, .from 39, .from 40]), rfl, ⟨fun _ _ h => h, fun _ _ h => h, fun _ _ _ => trivial, fun _ _ h => h, fun _ _ h => h, trivial⟩, (lbase (qLen (sz := 1) (n := nl) (F := (PRaw al xl ml)) Try.underlying39 (fun _ _ h => Rw.arr h) rfl)
      (lbase (qTest (op := .lss) (fun _ _ h => h) (fun _ _ h => h) (ts_run (decide_eq_true (by omega)) (by simp)))
      (lbase (qTestC (op := .lss) (fun _ _ h => h) (ts_run (decide_eq_true (by omega)) (by simp)))
      (lbase (qIdx (i := j) (sz := 1) (n := nl) (F := (PRaw al xl ml)) Try.underlying39 (by kernel_rfl) (fun _ _ h => Rw.arr h) (fun _ _ h => h) (by omega) rfl)
      (lbase (qLoadP (G := fun w v => Rw 2 (fun ι w v => RawI w v (al j ι) (xl j ι)) (ml j) w v) (by kernel_rfl) (fun _ _ h => h) (fun _ _ h => by obtain ⟨p, c, e, _⟩ := h; exact ⟨_, _, _, e⟩) rfl)
      (lbase (sCut5 (a := al j) (xs := xl j) (z := ez j) (n0 := ml j) (n := Nn j) 5 2 rfl rfl (fun _ _ h => h) rfl rfl hmj (by omega) (by omega) (hz j) (hNn j))
      (lderive (derivePR (zz := ez) (ln := Nn) (k := 2) (n := j) rfl (fun _ _ h => Rw.to (sz := 2) (n := (Nn j)) (F := (fun ι w v => KI w v (al j ι) ((xl j ι).take 2) (ez j ι) 2)) h fun i w v _ h => h.2))
      (lbase (qAppP (n := j) (k := 2) (zz := ez) (ln := Nn) (fun _ _ h => h) (fun _ _ h => h) (by omega) rfl)
      (lbase (sRAddI (z := coef (sumP ez Nn j)) (y := coef (trimL (mk (Nn j) (ez j)))) (n := (sumP ez Nn j).length) (m := (trimL (mk (Nn j) (ez j))).length) (K := 20) (L := (sumP ez Nn (j + 1))) (fun _ _ h => h) (fun _ _ h => h) rfl (by omega) (by omega) (by omega) (by omega) (by omega) (by omega) (by omega) (hSB j hj) (hSL j hj))
      (lbase (onJ [2] (sRMulI (z := coef (prodP ez Nn j)) (y := coef (trimL (mk (Nn j) (ez j)))) (n := (prodP ez Nn j).length) (m := (trimL (mk (Nn j) (ez j))).length) (K := 130) (ML := (prodP ez Nn (j + 1))) (fun _ _ h => h) (fun _ _ h => h) rfl (by omega) (by omega) (by omega) (by omega) (by omega) (by omega) (hPt j hj) (hXt j hj) (hPB j hj) (hPL j hj)))
      (lbase (qAddK (fun _ _ h => h) (by omega) rfl (by omega) (by omega))
      lnil)))))))))))⟩)
      (lbase (qLen (sz := 1) (n := nl) (F := (PRaw al xl ml)) Try.underlying39 (fun _ _ h => Rw.arr h) rfl)
      (lbase (qTest (op := .lss) (fun _ _ h => h) (fun _ _ h => h) (ts_run (decide_eq_true (by omega)) (by simp)))
      (lbase (qTestC (op := .lss) (fun _ _ h => h) (ts_run (decide_eq_false (by omega)) (by simp)))
      lnil)))
      (fun q hq w v h => by
        simp only [d_path_b_1, List.mem_cons, List.not_mem_nil, or_false] at hq
        rcases hq with rfl | rfl | rfl
        · exact (fun h => h) h
        · exact (fun h => h) h
        · exact (fun h => h) h)) (lbase (qLen (sz := 1) (n := nk) (F := (fun i _ v => v = .agg #[.int .i64 (kz i)])) Try.underlying40 (fun _ _ h => Rw.arr h) rfl)
      (lbase (qMinC (fun _ _ h => h) (by have := hnk'; split <;> omega) rfl)
      (lbase (qToA (m := nk') (n := nk) (F := (fun i _ v => v = .agg #[.int .i64 (kz i)])) Try.underlying40 (by kernel_rfl) (fun _ _ h => h) (fun _ _ h => h) (by first | omega | exact tl_le _ _) rfl)
      (lbase (tFrom iI rfl (by omega) rfl)
      (lbase (tOf (z := 1) rfl (by decide) (by decide) rfl)
      (lbase (tMake dD dD rfl rfl rfl (by omega) rfl)
      (lbase (onJ [1] (sSumP (zz := ez) (ln := Nn) (n := M) (k := 2) (fun _ _ h => ArrP.rw h) rfl (by omega) (by omega) (by omega) (fun i _ => Nat.le_trans (hN5 i) (by omega)) rfl))
      (lbase (onJ [1] (sIsP (z := (coef (sumP ez Nn M))) (n := (sumP ez Nn M).length) (k := (M * (2 + 1))) (kq := 20) (fun _ _ h => h) (fun _ _ h => h) (by omega) (by omega) (by omega)))
      (lbase (onJ [1] (sProdP (zz := ez) (ln := Nn) (n := M) (k := 2) (c := 21) (fun _ _ h => ArrP.rw h) rfl (by omega) (by omega) (by omega) (by omega) (fun i _ => Nat.le_trans (hN5 i) (by omega)) (fun j hj => hPl j (by omega)) rfl))
      (lbase (onJ [1, 2] (sIsP (z := (coef (prodP ez Nn M))) (n := (prodP ez Nn M).length) (k := (2 + M * (2 + 21 + 1))) (kq := 130) (fun _ _ h => h) (fun _ _ h => h) (by omega) (by omega) (by omega)))
      (lbase (onJ [2] (sRScaleJ (z := coef (prodP ez Nn M)) (c := cz) (n := (prodP ez Nn M).length) (K := 130) (X := (trimL (mk (prodP ez Nn M).length fun i => coef (prodP ez Nn M) i * cz))) (fun _ _ h => h) tS rfl (by omega) (by omega) (by omega) (by omega) (by omega) hSc rfl))
      (lbase (onJ [1] (sProdP (zz := ez) (ln := Nn) (n := M) (k := 2) (c := 21) (fun _ _ h => ArrP.rw h) rfl (by omega) (by omega) (by omega) (by omega) (fun i _ => Nat.le_trans (hN5 i) (by omega)) (fun j hj => hPl j (by omega)) rfl))
      (lbase (onJ [1] (sScaleP (z := (coef (prodP ez Nn M))) (n := (prodP ez Nn M).length) (fun _ _ h => Rw.to (sz := 2) (n := (prodP ez Nn M).length) (F := (fun ι w v => NorV w v ((coef (prodP ez Nn M)) ι) (2 + M * (2 + 21 + 1)))) (h) (fun i w v _ h => (fun _ _ _ h => NorV.i h) i w v h)) iI rfl (by omega) (by omega) rfl))
      (lbase (onJ [1, 2] (sIsP (z := (coef (trimL (mk (prodP ez Nn M).length fun i => coef (prodP ez Nn M) i * cz)))) (n := (trimL (mk (prodP ez Nn M).length fun i => coef (prodP ez Nn M) i * cz)).length) (k := ((2 + M * (2 + 21 + 1)) + 3)) (kq := 130) (fun _ _ h => h) (fun _ _ h => h) (by omega) (by omega) (by omega)))
      (lbase (sPROf (z := kz) (n := nk') (fun _ _ h => h) rfl (by omega) hkb rfl)
      (lbase (sPOf (z := kz) (n := nk') (fun _ _ h => h) rfl (by omega) hkb rfl)
      (lbase (sIsP (z := (coef (trimL (mk nk' kz)))) (n := (trimL (mk nk' kz)).length) (k := 2) (kq := 6) (fun _ _ h => h) (fun _ _ h => h) (by omega) (by omega) (by omega))
      (lbase (sWakes5)
      lnil))))))))))))))))))))))))
    (ins_ok [.fact 0 (.one (.s)), .fact 1 (.agg [.b, .s]), .fact 2 (.one (.s))] ⟨fun _ _ h => Rw.is (sz := 1) (F := PRaw al xl ml) (n := nl) h, fun _ _ h => RawI.is h, fun _ _ h => Rw.is (sz := 1) (F := fun i _ v => v = .agg #[.int .i64 (kz i)]) (n := nk) h, trivial⟩) (fun _ _ _ h => h)

section
variable {H : Type} {enc : TypeId × Value → H}
set_option maxRecDepth 100000 in
theorem poly_of_cells {W : World} {base : Nat} {held : Bool} {fuel : Nat} {cs : List Value} {x : DataW H × List MemPlace} (hf : DataW.trod enc Try.prog W base (fun _ => true) held fuel 23 cs = some x) :
    ∃ (v : Value) (n : Nat) (a : Nat → Bool) (xs : Nat → List Nat), cs = [v] ∧ n ≤ 9223372036854775807 ∧ Rw 2 (fun i w v => RawI w v (a i) (xs i)) n W v := by
  rcases Deep.open_slice Try.underlying23 hf with ⟨hcs, _⟩ | ⟨a, len, cap, m, n, D, Pl, hcs, _, hl, hm, hmm, _, hx⟩
  · exact ⟨_, 0, fun _ => false, fun _ => [], hcs, by omega, none, 0, rfl, Nat.le_refl _, fun i hi => by omega⟩
  · simp only [if_true] at hmm
    have each : ∀ i, i < len → ∃ q : Bool × List Nat × List Value, q.2.2.length = 2 ∧ (∀ (j : Nat) (u : Value), q.2.2[j]? = some u → W.cell? (a.add (i * 2 + j)) = some u) ∧ RawI W (.agg q.2.2.toArray) q.1 q.2.1 := fun i hi => by
      obtain ⟨cs, h1, h2⟩ := hx i (by omega)
      rw [Try.cells24] at h1
      obtain ⟨_, hlen, hcell⟩ := World.cells?_some h1
      match cs, hlen with
      | [c0, c1], _ =>
        obtain ⟨b, xs, rfl, h5, h6⟩ := int_of_cells h2
        refine ⟨(b, xs, [.bool b, c1]), rfl, fun j u hj => ?_, ⟨_, rfl, h5, h6⟩⟩
        have hlt := (List.getElem?_eq_some_iff.1 hj).1
        have e := hcell j (by simpa using hlt)
        rw [Deep.add_add] at e
        rw [e]
        exact hj
    obtain ⟨q, hq⟩ := Deep.choose_lt each
    refine ⟨_, len, fun i => (q i).1, fun i => (q i).2.1, hcs, ?_, some a, cap, rfl, hl, fun i hi => ?_⟩
    · have : maxLen ≤ 9223372036854775807 := by decide
      omega
    obtain ⟨h1, h2, h3⟩ := hq i hi
    obtain ⟨b, off, spot⟩ := a
    obtain ⟨g1, g2, -⟩ := hq 0 (by omega)
    have h0 := g2 0 ((q 0).2.2[0]'(by omega)) (List.getElem?_eq_getElem (by omega))
    have hspot : spot = none := by simpa [Addr.add] using World.cell?_spot h0
    subst hspot
    refine ⟨b, off, rfl, (q i).2.2, h1, fun j u hj => ?_, h3⟩
    have := h2 j u hj
    rw [Addr.add_lit] at this
    rw [Nat.add_assoc]; exact this
set_option maxRecDepth 100000 in
theorem polys_of_trod {W : World} {base base' : Nat} {held : Bool} {v : Value} {d : DataW H} {ps : List MemPlace}
    (h : DataW.Trod enc Try.prog W base (fun _ => true) held 39 v d ps) (hv : Value.okWide Try.prog W .any base' 39 v) : ∃ (n : Nat) (m : Nat → Nat) (a : Nat → Nat → Bool) (xs : Nat → Nat → List Nat), (n ≤ 9223372036854775807 ∧ ∀ i, i < n → m i ≤ 9223372036854775807) ∧ Rw 1 (PRaw a xs m) n W v := by
  obtain ⟨a0, len, cap, rfl⟩ := okWide_slice Try.underlying39 hv
  obtain ⟨fuel, hf⟩ := h
  rcases Deep.open_slice Try.underlying39 hf with ⟨hcs, _⟩ | ⟨a, len', cap', m, n, D, Pl, hcs, _, hl, hm, hmm, _, hx⟩
  · simp [Value.cells] at hcs
    obtain ⟨rfl, rfl, rfl⟩ := hcs
    exact ⟨0, fun _ => 0, fun _ _ => false, fun _ _ => [], ⟨by omega, fun _ _ => by omega⟩, none, 0, rfl, Nat.le_refl _, fun i hi => by omega⟩
  · simp [Value.cells] at hcs
    obtain ⟨rfl, rfl, rfl⟩ := hcs
    simp only [if_true] at hmm
    have each : ∀ i, i < len → ∃ q : Value × Nat × (Nat → Bool) × (Nat → List Nat), W.cell? (a.add (i * 1 + 0)) = some q.1 ∧ q.2.1 ≤ 9223372036854775807 ∧ Rw 2 (fun j w v => RawI w v (q.2.2.1 j) (q.2.2.2 j)) q.2.1 W q.1 := fun i hi => by
      obtain ⟨cs, h1, h2⟩ := hx i (by omega)
      rw [show Try.prog.cellsOf 23 = 1 by kernel_rfl] at h1
      obtain ⟨_, hlen, hcell⟩ := World.cells?_some h1
      obtain ⟨u, n', b', xs', rfl, h3, h4⟩ := poly_of_cells h2
      have e := hcell 0 (by simp)
      rw [Deep.add_add] at e
      exact ⟨(u, n', b', xs'), by rw [e]; rfl, h3, h4⟩
    obtain ⟨q, hq⟩ := Deep.choose_lt each
    refine ⟨len, fun i => (q i).2.1, fun i => (q i).2.2.1, fun i => (q i).2.2.2, ⟨?_, fun i hi => (hq i hi).2.1⟩, some a, cap, rfl, hl, fun i hi => ?_⟩
    · have : maxLen ≤ 9223372036854775807 := by decide
      omega
    obtain ⟨h1, h2, h3⟩ := hq i hi
    obtain ⟨b, off, spot⟩ := a
    obtain ⟨g1, -, -⟩ := hq 0 (by omega)
    have hspot : spot = none := by simpa [Addr.add] using World.cell?_spot g1
    subst hspot
    refine ⟨b, off, rfl, [(q i).1], rfl, fun j u hj => ?_, ⟨_, rfl, h3⟩⟩
    match j, hj with
    | 0, hj =>
      simp only [List.getElem?_cons_zero, Option.some.injEq] at hj
      subst hj
      rw [Addr.add_lit] at h1
      rw [Nat.add_assoc]; exact h1
set_option maxRecDepth 100000 in
theorem ints_of_trod {W : World} {base base' : Nat} {held : Bool} {v : Value} {d : DataW H} {ps : List MemPlace}
    (h : DataW.Trod enc Try.prog W base (fun _ => true) held 40 v d ps) (hv : Value.okWide Try.prog W .any base' 40 v) : ∃ (n : Nat) (z : Nat → Int), n ≤ 9223372036854775807 ∧ (∀ i, -9223372036854775808 ≤ z i ∧ z i ≤ 9223372036854775807) ∧ Rw 1 (fun i _ v => v = .agg #[.int .i64 (z i)]) n W v := by
  obtain ⟨a0, len, cap, rfl⟩ := okWide_slice Try.underlying40 hv
  obtain ⟨fuel, hf⟩ := h
  rcases open_ints Try.underlying40 Try.underlying3 (by kernel_rfl) hf with ⟨hcs, _⟩ | ⟨a, len', cap', zs, hcs, _, hl, hm, hzl, _, hcell, hwf⟩
  · simp [Value.cells] at hcs
    obtain ⟨rfl, rfl, rfl⟩ := hcs
    exact ⟨0, fun _ => 0, by omega, fun _ => ⟨(by decide : (-9223372036854775808 : Int) ≤ 0), (by decide : (0 : Int) ≤ 9223372036854775807)⟩, none, 0, rfl, Nat.le_refl _, fun i hi => by omega⟩
  · simp [Value.cells] at hcs
    obtain ⟨rfl, rfl, rfl⟩ := hcs
    simp only [if_true] at hzl
    refine ⟨len, fun i => zs.getD i 0, ?_, fun i => ?_, some a, cap, rfl, hl, fun i hi => ?_⟩
    · have : maxLen ≤ 9223372036854775807 := by decide
      omega
    · show -9223372036854775808 ≤ zs.getD i 0 ∧ zs.getD i 0 ≤ 9223372036854775807
      rw [List.getD_eq_getElem?_getD]
      cases h : zs[i]? with
      | none => exact ⟨(by decide : (-9223372036854775808 : Int) ≤ 0), (by decide : (0 : Int) ≤ 9223372036854775807)⟩
      | some u => exact ⟨wf_lo (hwf u (List.mem_of_getElem? h)), wf_hi (hwf u (List.mem_of_getElem? h))⟩
    obtain ⟨b, off, spot⟩ := a
    have hspot : spot = none := by simpa [Addr.add] using World.cell?_spot (hcell 0 (by omega))
    subst hspot
    refine ⟨b, off, rfl, [.int .i64 (zs.getD i 0)], rfl, fun j u hj => ?_, rfl⟩
    match j, hj with
    | 0, hj =>
      simp only [List.getElem?_cons_zero, Option.some.injEq] at hj
      subst hj
      have := hcell i (by omega)
      rw [Addr.add_lit] at this
      rw [Nat.mul_one, Nat.add_zero]; exact this
end
theorem arg_polys {Φ : Nat → World → Value → Prop} {p n : Nat} {al : Nat → Nat → Bool} {xl : Nat → Nat → List Nat} {ml : Nat → Nat} {w : World} {v : Value} (h : Rw 1 (PRaw al xl ml) n w v) (hp : Φ p = fun w v => Rw 1 (PRaw al xl ml) n w v := by rfl) : (Arg.fact p).ok Φ (fun _ => False) w v := fun w1 hw => by
  rw [hp]
  obtain ⟨p, c, rfl, hc, he⟩ := h
  refine ⟨p, c, rfl, hc, fun i hi => ?_⟩
  obtain ⟨b, off, rfl, l, h1, h2, s, h3, h4⟩ := he i hi
  refine ⟨b, off, rfl, l, h1, fun j u hj => ?_, s, h3, ?_⟩
  · have hc := h2 j u hj
    rw [World.cell?_of_block (hw.2 b (World.block_lt_of_cell? _ _ hc) fun h => h)]; exact hc
  · obtain ⟨p2, c2, rfl, hc2, he2⟩ := h4
    refine ⟨p2, c2, rfl, hc2, fun j hj => ?_⟩
    obtain ⟨b2, off2, rfl, l2, g1, g2, g3⟩ := he2 j hj
    refine ⟨b2, off2, rfl, l2, g1, fun j' u hj' => ?_, RawI.kp g3 hw.1⟩
    have hc := g2 j' u hj'
    rw [World.cell?_of_block (hw.2 b2 (World.block_lt_of_cell? _ _ hc) fun h => h)]; exact hc
theorem arg_ints {Φ : Nat → World → Value → Prop} {p n : Nat} {z : Nat → Int} {w : World} {v : Value} (h : Rw 1 (fun i _ v => v = .agg #[.int .i64 (z i)]) n w v) (hp : Φ p = fun w v => Rw 1 (fun i _ v => v = .agg #[.int .i64 (z i)]) n w v := by rfl) : (Arg.fact p).ok Φ (fun _ => False) w v := fun w1 hw => by
  rw [hp]
  obtain ⟨p, c, rfl, hc, he⟩ := h
  refine ⟨p, c, rfl, hc, fun i hi => ?_⟩
  obtain ⟨b, off, rfl, l, h1, h2, h3⟩ := he i hi
  refine ⟨b, off, rfl, l, h1, fun j u hj => ?_, h3⟩
  have hc := h2 j u hj
  rw [World.cell?_of_block (hw.2 b (World.block_lt_of_cell? _ _ hc) fun h => h)]; exact hc
theorem coef_tm (n : Nat) (f : Nat → Int) (i : Nat) : coef (trimL (mk n f)) i = upto n f i := by
  rw [coef_trim, coef_mk]; rfl
theorem upto_fun (L : List Int) : upto L.length (coef L) = coef L := funext fun i => upto_coef L i
theorem bd_zeroP (k : Nat) : Bd (0 : Int).natAbs k := Nat.pow_pos (by omega)
section
variable {ez : Nat → Nat → Int} {Nn : Nat → Nat}
theorem pl_nrm : ∀ j, tl (coef (prodP ez Nn j)) (prodP ez Nn j).length = (prodP ez Nn j).length
  | 0 => by
    show tl (coef [1]) 1 = 1
    decide
  | j + 1 => by
    have h := congrArg List.length (trimL_of (mulL_nrm (coef (prodP ez Nn j)) (prodP ez Nn j).length (ez j) (Nn j)))
    rw [trimL_length] at h
    exact h
theorem pl_len (h5 : ∀ i, Nn i ≤ 5) : ∀ j, (prodP ez Nn j).length ≤ 1 + j * 5
  | 0 => by simp [prodP]
  | j + 1 => by
    have h1 := pl_len h5 j
    have h2 := h5 j
    have h3 := mulL_le (coef (prodP ez Nn j)) (prodP ez Nn j).length (ez j) (Nn j)
    rw [prodP]; omega
theorem pl_bd (h5 : ∀ i, Nn i ≤ 5) (hb : ∀ i j, j < Nn i → Bd (ez i j).natAbs 2) : ∀ j, j ≤ 4 → ∀ i, Bd (coef (prodP ez Nn j) i).natAbs (2 + j * 24)
  | 0, _, i => by
    rw [prodP]
    match i with
    | 0 => show 1 < 4294967296 ^ _; decide
    | i + 1 => exact bd_zeroP _
  | j + 1, hj, i => by
    have h1 := pl_len (ez := ez) h5 j
    have h2 := mulL_bd (z := coef (prodP ez Nn j)) (n := (prodP ez Nn j).length) (y := ez j) (m := Nn j) (k := 2 + j * 24) (k' := 2) (fun i _ => pl_bd h5 hb j (by omega) i) (fun i hi => hb j i hi) i
    exact h2.more (by omega)
theorem sl_bd (hb : ∀ i j, j < Nn i → Bd (ez i j).natAbs 2) : ∀ j i, Bd (coef (sumP ez Nn j) i).natAbs (2 + j)
  | 0, i => by rw [sumP]; exact bd_zeroP _
  | j + 1, i => by
    rw [sumP, coef_add, upto_coef]
    have h1 := sl_bd hb j i
    have h2 : Bd (upto (Nn j) (ez j) i).natAbs (2 + j) := by
      unfold upto
      split
      · exact (hb j i (by assumption)).more (by omega)
      · exact bd_zeroP _
    exact (Bd.add1' h1 h2).le (Int.natAbs_add_le _ _)
end
theorem walk {nl : Nat} {ml : Nat → Nat} {al : Nat → Nat → Bool} {xl : Nat → Nat → List Nat} {xc : List Nat} {nk : Nat} {kz : Nat → Int} {w : World} {vl vk : Value} {bc : Bool} {wc : Value} (hnl : nl ≤ 9223372036854775807 ∧ ∀ i, i < nl → ml i ≤ 9223372036854775807) (hll : Rw 1 (PRaw al xl ml) nl w vl) (hsc : Sl w .u32 wc xc) (hac : All 4294967296 xc) (hnk : nk ≤ 9223372036854775807) (hkb : ∀ i, -9223372036854775808 ≤ kz i ∧ kz i ≤ 9223372036854775807) (hlk : Rw 1 (fun i _ v => v = .agg #[.int .i64 (kz i)]) nk w vk) : Calls Try.prog 4 #[vl, .agg #[.bool bc, wc], vk] w (Bool_ w true) := by
  -- the rows past the end count as empty
  obtain ⟨ml', hml'⟩ : ∃ f : Nat → Nat, ∀ i, (if i < nl then ml i else 0) = f i := ⟨_, fun _ => rfl⟩
  have hll' : Rw 1 (PRaw al xl ml') nl w vl := Rw.to hll fun i w v hi ⟨s, h1, h2⟩ => ⟨s, h1, by rw [← hml' i, if_pos hi]; exact h2⟩
  obtain ⟨ez, hz⟩ : ∃ ez : Nat → Nat → Int, ∀ i j, sg (al i j) (Proofs.Yteblgmjpociffaa.val 4294967296 ((xl i j).take 2)) = ez i j := ⟨_, fun _ _ => rfl⟩
  obtain ⟨Nn, hNn⟩ : ∃ f : Nat → Nat, ∀ i, min (ml' i) 5 = f i := ⟨_, fun _ => rfl⟩
  obtain ⟨M, hM⟩ : ∃ M, min nl 4 = M := ⟨_, rfl⟩
  obtain ⟨cz, hcz⟩ : ∃ z, sg bc (Proofs.Yteblgmjpociffaa.val 4294967296 (xc.take 3)) = z := ⟨_, rfl⟩
  obtain ⟨nk', hnk'⟩ : ∃ n, min nk 12 = n := ⟨_, rfl⟩
  have hN5 : ∀ i, Nn i ≤ 5 := fun i => by rw [← hNn]; omega
  have hb : ∀ i j, j < Nn i → Bd (ez i j).natAbs 2 := fun i j hj => by
    have h0 := hNn i
    have h1 := hml' i
    by_cases hi : i < nl
    · obtain ⟨p, c, rfl, _, he⟩ := hll
      obtain ⟨_, _, _, _, _, _, s, _, hR⟩ := he i hi
      rw [if_pos hi] at h1
      obtain ⟨p2, c2, rfl, _, he2⟩ := hR
      obtain ⟨_, _, _, l, _, _, s, _, _, h2⟩ := he2 j (by omega)
      rw [← hz i j, sg_abs]
      exact Bd.row _ h2 2
    · rw [if_neg hi] at h1; omega
  have hbc : Bd cz.natAbs 3 := by
    rw [← hcz, sg_abs]; exact Bd.row _ hac 3
  have hXu : ∀ j i, coef (trimL (mk (Nn j) (ez j))) i = upto (Nn j) (ez j) i := fun j i => coef_tm _ _ _
  have hXl : ∀ j, (trimL (mk (Nn j) (ez j))).length ≤ 5 := fun j => by
    rw [trimL_mk]; exact Nat.le_trans (tl_le _ _) (hN5 j)
  have hXb : ∀ j i, Bd (coef (trimL (mk (Nn j) (ez j))) i).natAbs 2 := fun j i => by
    rw [hXu]
    unfold upto
    split
    · exact hb j i (by assumption)
    · exact bd_zeroP _
  have hXt : ∀ j, tl (coef (trimL (mk (Nn j) (ez j)))) (trimL (mk (Nn j) (ez j))).length = (trimL (mk (Nn j) (ez j))).length := fun j => by
    have h2 := congrArg List.length (trimL_of (trimL_nrm (mk (Nn j) (ez j))))
    rw [trimL_length] at h2
    exact h2
  have hPl : ∀ j, j ≤ 4 → (prodP ez Nn j).length ≤ 21 := fun j hj => Nat.le_trans (pl_len hN5 j) (by omega)
  have hSl : ∀ j, j ≤ 4 → (sumP ez Nn j).length ≤ 5 := fun j _ => sumP_le fun i _ => hN5 i
  have hSL : ∀ j, j < M → trimL (mk (max (sumP ez Nn j).length (trimL (mk (Nn j) (ez j))).length) (fun i => upto (sumP ez Nn j).length (coef (sumP ez Nn j)) i + upto (trimL (mk (Nn j) (ez j))).length (coef (trimL (mk (Nn j) (ez j)))) i)) = sumP ez Nn (j + 1) := fun j _ => by
    refine nrm_ext (trimL_nrm _) (trimL_nrm _) fun i => ?_
    rw [coef_add, sumP, coef_add, upto_coef, upto_coef, hXu]
  have hPL : ∀ j, j < M → mulL (coef (prodP ez Nn j)) (prodP ez Nn j).length (coef (trimL (mk (Nn j) (ez j)))) (trimL (mk (Nn j) (ez j))).length = prodP ez Nn (j + 1) := fun j _ => by
    refine nrm_ext (mulL_nrm _ _ _ _) (mulL_nrm _ _ _ _) fun i => ?_
    rw [coef_mul, prodP, coef_mul, upto_fun (trimL (mk (Nn j) (ez j)))]
    exact conv_congr (fun _ _ => rfl) (fun i _ => hXu j i)
  have hSB : ∀ j, j < M → ∀ i, i < max (sumP ez Nn j).length (trimL (mk (Nn j) (ez j))).length → Bd (upto (sumP ez Nn j).length (coef (sumP ez Nn j)) i + upto (trimL (mk (Nn j) (ez j))).length (coef (trimL (mk (Nn j) (ez j)))) i).natAbs 20 := fun j hj i _ => by
    rw [upto_coef, upto_coef]
    exact ((Bd.add1' ((sl_bd hb j i).more (show 2 + j ≤ 10 by omega)) ((hXb j i).more (by omega))).le (Int.natAbs_add_le _ _)).more (by omega)
  have hPB : ∀ j, j < M → ∀ a i p, a < (prodP ez Nn j).length → i ≤ (trimL (mk (Nn j) (ez j))).length → Bd (cvI (coef (prodP ez Nn j)) (coef (trimL (mk (Nn j) (ez j)))) (trimL (mk (Nn j) (ez j))).length a i p).natAbs 130 := fun j hj a i p ha hi => by
    have := hPl j (by omega)
    exact (cvI_bd (c := 21) (n := (prodP ez Nn j).length) (fun i _ => pl_bd hN5 hb j (by omega) i) (fun i _ => hXb j i) ha this hi p).more (by omega)
  have hSc : ∀ i, i < (prodP ez Nn M).length → Bd (coef (prodP ez Nn M) i * cz).natAbs 130 := fun i _ => by
    rw [Int.natAbs_mul]
    exact (Bd.mul (pl_bd hN5 hb M (by omega) i) hbc).more (by omega)
  have hml2 : ∀ i, i < nl → ml' i ≤ 9223372036854775807 := fun i hi => by rw [← hml', if_pos hi]; exact hnl.2 i hi
  have hA : argsOk (Φ := ph (b_path_a al xl ez ml' Nn nl M bc xc cz kz nk nk')) (fun _ => False) w [.fact 0, .fact 1, .fact 2] [vl, .agg #[.bool bc, wc], vk] := ⟨arg_polys hll', arg_kp rfl (fun _ _ _ g h => RawI.kp h g) ⟨_, rfl, hsc, hac⟩, arg_ints hlk, trivial⟩
  by_cases h4 : nl ≤ 4
  · exact law_true (path_a (M := M) hnl.1 hml2 hz hNn hN5 (by omega) (by omega) hcz hnk hkb hnk' hSl hPl hSB hSL (fun j _ => pl_nrm j) (fun j _ => hXt j) hPB hPL hSc (by omega)) (vs := [vl, .agg #[.bool bc, wc], vk]) hA
  · exact law_true (path_b (M := M) hnl.1 hml2 hz hNn hN5 (by omega) (by omega) hcz hnk hkb hnk' hSl hPl hSB hSL (fun j _ => pl_nrm j) (fun j _ => hXt j) hPB hPL hSc (by omega) (by omega)) (vs := [vl, .agg #[.bool bc, wc], vk]) ⟨arg_polys hll', arg_kp rfl (fun _ _ _ g h => RawI.kp h g) ⟨_, rfl, hsc, hac⟩, arg_ints hlk, trivial⟩
set_option maxRecDepth 100000 in
theorem lifted (os : Os) (started : os.Started) (H : Type) (enc : TypeId × Value → H) :
    ReturnsInHanded {} Try.checked os 4 .any (Rows.polyAllsSpec.pre6 enc Try.prog Try.f4 Rows.polyAllsRow.domain false) (Rows.polyAllsSpec.post enc Try.prog Try.f4 false true false false) := by
  refine returnsInHanded_of_change (C := Try.checked) Try.own started (by kernel_rfl) Try.func4
    (ChangeSpec.witness6 (enc := enc) (C := Try.checked) false ⟨#[], #[.slice none 0 0, .agg #[.bool false, .slice none 0 0], .slice none 0 0], []⟩ 8 (by kernel_rfl) (by kernel_rfl) (by kernel_rfl) (by kernel_rfl)) ?_
  intro W base args ds gs before hval0 hW _ _
  have hval : ∀ (j : Nat) t v, Try.f4.params[j]? = some t → args[j]? = some v → Value.okWide Try.prog W .any base t v := hval0
  obtain ⟨p, q, hA0, hV, rfl, _, _⟩ := id hW
  have hA : DataW.TrodAll enc Try.prog W 0 (fun _ => true) true Try.f4.params.toList args.toList ds p := hA0
  rw [Try.params4] at hA hval
  obtain ⟨v0, vs0, d0, ds0, p0, q0, hargs, rfl, rfl, h0, r0⟩ := trodAll_cons hA
  obtain ⟨v1, vs1, d1, ds1, p1, q1, rfl, rfl, rfl, h1, r1⟩ := trodAll_cons r0
  obtain ⟨v2, vs2, d2, ds2, p2, q2, rfl, rfl, rfl, h2, r2⟩ := trodAll_cons r1
  obtain ⟨rfl, rfl, rfl⟩ := trodAll_nil r2
  obtain rfl : args = #[v0, v1, v2] := by cases args; simp_all
  obtain ⟨n0, m0, a0, xs0, l0, s0⟩ := polys_of_trod h0 (hval 0 39 v0 rfl rfl)
  obtain ⟨b1, w1, xs1, rfl, s1, a1⟩ := int_of_trod h1 (hval 1 36 v1 rfl rfl)
  obtain ⟨n2, z2, l2, b2, s2⟩ := ints_of_trod h2 (hval 2 40 v2 rfl rfl)
  refine (walk l0 s0 s1 a1 l2 b2 s2).mono fun e W' ⟨he, hg⟩ => ?_
  subst he
  refine ⟨_, rfl, law_post Try.laidOut rfl (by kernel_rfl) Try.underlying4 ?_ ?_ hW hg⟩
  · rw [Try.params4]; decide +kernel
  · rw [Try.params4]
    intro ds h
    match ds, h with
    | [_, _, _], _ => rfl

theorem holds : Rows.PolyAllsSaid :=
  OpenClaim.holds_of_wide 4 Try.f4 rfl rfl rfl rfl rfl rfl rfl ⟨rfl, rfl, rfl, rfl, rfl⟩ rfl rfl rfl rfl rfl (by kernel_rfl) Try.func4 (by kernel_rfl)
    (of_decide_eq_true (by kernel_rfl)) (by unfold Func.isWrapper; first | (rw [if_pos (by decide +kernel)]; kernel_rfl) | (rw [if_neg (by decide +kernel)]; exact ⟨rfl, rfl⟩))
    (fun os started H enc _ => lifted os started H enc)


end Go.Proofs.Yteblgmjpociffaa.palls
