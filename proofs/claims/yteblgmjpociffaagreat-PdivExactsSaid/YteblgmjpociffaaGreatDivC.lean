/- pdiv.Content, divided, Primitive, Rest. -/
import Derived.Test.YteblgmjpociffaaGreatCatB
import Derived.Test.YteblgmjpociffaaGreatDivR
import Derived.Test.YteblgmjpociffaaGreatPolD
namespace Go.Proofs.YteblgmjpociffaaGreat.Sym
open Go.RowKit
section
variable {Φ : Nat -> World -> Value -> Prop} {p q x n m k l j : Nat} {z : Nat -> Int} {c : Int} {L : List Int} {zz : Nat -> Nat -> Int} {ln : Nat -> Nat}
theorem sConcat (hp : ∀ w v, Φ p w v -> Rw 1 (PRow zz ln k) n w v) (hx : Φ x = fun w v => ArrO 2 26 (fun ι w v => IntV w v (coef (catL zz ln n) ι) k) (catL zz ln n).length w v) (hn : n <= 1000) (hs : ∀ j, j <= n -> (catL zz ln j).length <= 1000000) : SiteOk Φ Tryz.prog ⟨91, [.fact p], [⟨.one .s, [(0, 0, x)]⟩], false⟩ :=
 viaG (concat hn hs) ⟨hp, trivial⟩ ⟨⟨rfl, ⟨rfl, rfl, fun _ _ h => hx ▸ h⟩, trivial⟩, trivial⟩
theorem rowZ_of {w : World} {v : Value} (h : ArrO 2 26 (fun ι w v => IntV w v (z ι) k) n w v) : RowZ w v n z k := by
 obtain ⟨p, c, rfl, hc, he⟩ := h.rw
 obtain ⟨rows, -, -, ho, -⟩ := h
 have hcap : c <= 9223372036854775807 := by
  rcases ho.1.2 with ⟨h1, -⟩ | ⟨g, cap, cur, h1, -, -, -, h4, -⟩
  ·simp only [Value.slice.injEq] at h1
   omega
  ·simp only [Value.slice.injEq] at h1
   obtain ⟨-, -, rfl⟩ := h1
   simp only [maxLen] at h4; omega
 refine ⟨p, c, rfl, hc, hcap, ?_⟩
 rcases Nat.eq_zero_or_pos n with h0 | h0
 ·exact .inl h0
 ·obtain ⟨b, off, rfl, -⟩ := he 0 h0
  refine .inr ⟨b, off, rfl, fun j hj => ?_⟩
  obtain ⟨b', off', hb, l, h1, h2, x, s, X, h3, h4, h5⟩ := he j hj
  simp only [Option.some.injEq, Addr.mk.injEq, and_true] at hb
  obtain ⟨rfl, rfl⟩ := hb
  obtain rfl : l = [.bool x, s] := by simpa using h3
  exact ⟨x, s, X, h2 0 _ rfl, h2 1 _ rfl, h4, h5⟩
theorem sGcdN (hp : ∀ w v, Φ p w v -> ArrO 2 26 (fun ι w v => IntV w v (z ι) k) n w v) (hx : Φ x = fun w v => NorV w v (gcdZ z n : Int) k) (hk : k <= 1000000) : SiteOk Φ Tryz.prog ⟨90, [.fact p], [⟨iS, [(0, 0, x)]⟩], false⟩ :=
 site1 fun _ _ _ h0 => ((Gcd_i (rowZ_of (hp _ _ (get h0))) hk).mono fun _ _ h => h.got).mono fun _ _ h => pstI hx h
end
def b_pcontent (zz : Nat -> Nat -> Int) (ln : Nat -> Nat) (n k : Nat) : List (World -> Value -> Prop) := [fun w v => Rw 1 (PRow zz ln k) n w v, fun w v => ArrO 2 26 (fun ι w v => IntV w v ((coef (catL zz ln n)) ι) k) ((catL zz ln n).length) w v, fun w v => NorV w v (gcdZ (coef (catL zz ln n)) ((catL zz ln n).length) : Int) k]
def ss_pcontent : List Step := [.base ⟨91, [.fact 0], [⟨.one (.s), [(0, 0, 1)]⟩], false⟩,
   .base ⟨90, [.fact 1], [⟨.agg [.b, .s], [(0, 0, 2)]⟩], false⟩]
def ins_pcontent : List Out := [⟨.one (.s), [(0, 0, 0)]⟩]
set_option maxRecDepth 100000 in
theorem pcontent {zz : Nat -> Nat -> Int} {ln : Nat -> Nat} {n k : Nat} (hn : n <= 1000) (hk : k <= 100000) (hs : ∀ j, j <= n -> (catL zz ln j).length <= 1000000) : SiteOk (ph (b_pcontent zz ln n k)) Tryz.prog ⟨34, [.fact 0], [⟨.agg [.b, .s], [(0, 0, 2)]⟩], false⟩ := by
 skip
 exact fn_okL ins_pcontent [⟨.agg [.b, .s], [(0, 0, 2)]⟩] ss_pcontent Tryz.func34 (by kernel_rfl)
  (lbase (sConcat (fun _ _ h => h) rfl (by omega) hs)
   (lbase (sGcdN (fun _ _ h => h) rfl (by omega))
   lnil))
  (ins_ok [.fact 0 (.one (.s))] ⟨fun _ _ h => Rw.is (sz := 1) (F := PRow zz ln k) (n := n) h, trivial⟩) (fun _ _ _ h => h)
def dvS (f : Nat -> Int) (c : Int) (j i : Nat) : Int := if i < j then f i / c else f i
def dvL (z : Nat -> Int) (n : Nat) (c : Int) : List Int := mk (tl z n) fun i => z i / c
section
variable {f : Nat -> Int} {c : Int} {i j : Nat}
theorem dvS_zero : dvS f c 0 i = f i := if_neg (by omega)
theorem dvS_ne (h : i ≠ j) : dvS f c (j + 1) i = dvS f c j i := by
 unfold dvS
 split <;> split <;> first | rfl | omega
theorem dvS_self : dvS f c j j = f j := if_neg (by omega)
theorem dvS_at : dvS f c j j / c = dvS f c (j + 1) j := by rw [dvS_self, dvS, if_pos (by omega)]
end
theorem gcdZ_congr {f g : Nat -> Int} : ∀ {n : Nat}, (∀ i, i < n -> f i = g i) -> gcdZ f n = gcdZ g n
 | 0, _ => rfl
 | n + 1, h => by rw [gcdZ, gcdZ, gcdZ_congr fun i hi => h i (by omega), h n (by omega)]
theorem gcdZ_dvdN {z : Nat -> Int} : ∀ {n : Nat} (i : Nat), i < n -> gcdZ z n ∣ (z i).natAbs
 | n + 1, i, hi => by
  rw [gcdZ]
  rcases Nat.lt_or_ge i n with h | h
  ·exact Nat.dvd_trans (Nat.gcd_dvd_left _ _) (gcdZ_dvdN i h)
  ·obtain rfl : i = n := by omega
   exact Nat.gcd_dvd_right _ _
theorem gcdZ_dvd {z : Nat -> Int} {n : Nat} (i : Nat) (hi : i < n) : ((gcdZ z n : Nat) : Int) ∣ z i := Int.ofNat_dvd_left.2 (gcdZ_dvdN i hi)
theorem gcdZ_ne {z : Nat -> Int} {n : Nat} (h : 0 < tl z n) : ((gcdZ z n : Nat) : Int) ≠ 0 := fun e => by
 have h1 := tl_last z n h
 have h2 := gcdZ_dvd (z := z) (n := n) (tl z n - 1) (by have := tl_le z n; omega)
 rw [e] at h2
 exact h1 (Int.zero_dvd.1 h2)
def pcon (z : Nat -> Int) (n : Nat) : Int := if ldZ z n < 0 then -(gcdZ z n : Int) else (gcdZ z n : Int)
theorem pcon_dvd {z : Nat -> Int} {n : Nat} (i : Nat) (hi : i < n) : pcon z n ∣ z i := by
 unfold pcon
 split
 ·exact Int.neg_dvd.2 (gcdZ_dvd i hi)
 ·exact gcdZ_dvd i hi
theorem pcon_ne {z : Nat -> Int} {n : Nat} (h : 0 < tl z n) : pcon z n ≠ 0 := by
 have := gcdZ_ne h
 unfold pcon
 split <;> omega
def b_pdivided (z : Nat -> Int) (n k l : Nat) (c : Int) (Z : List Int) : List (World -> Value -> Prop) := [fun w v => Rw 2 (fun ι w v => IntV w v (z ι) k) n w v, fun w v => IntV w v c l, fun w v => ArrO 2 26 (fun ι w v => NorV w v ((coef Z) ι) k) Z.length w v, LenS Z.length, fun _ v => v = .int .i64 ((Z.length : Nat) : Int), fun w v => ArrO 2 26 (fun ι w v => NorV w v ((dvS (coef Z) c Z.length) ι) k) Z.length w v]
def l_pdivided_1 (k : Nat) (c : Int) (Z : List Int) (j : Nat) : List (World -> Value -> Prop) := [fun _ v => v = .int .i64 ((j : Nat) : Int), fun w v => ArrO 2 26 (fun ι w v => NorV w v ((dvS (coef Z) c j) ι) k) Z.length w v, fun _ _ => True, At 2, fun w v => Ptr 2 (fun w v => NorV w v ((dvS (coef Z) c j) j) k) w v, fun w v => NorV w v ((dvS (coef Z) c j) j) k, fun w v => NorV w v (((dvS (coef Z) c j) j) / c) k, At 2, fun w v => Ptr 2 (fun w v => NorV w v ((dvS (coef Z) c j) j) k) w v, fun w v => ArrO 2 26 (fun ι w v => NorV w v ((dvS (coef Z) c (j + 1)) ι) k) Z.length w v, fun _ v => v = .int .i64 (((j + 1) : Nat) : Int)]
def d_pdivided_1 : LoopD := ⟨[0, 1, 3, 4, 8, 9, 11], [(.slot 12, .i), (.two 10 5, .s)], [(.one 0, 6), (.one 1, .at [1] 7), (.one 1, .lo 1)], [.closed (.one (.ci .i64 0)), .from 2, .from 0], 6, [(7, 5)]⟩
def r_pdivided_1_0 : List Step := [.base ⟨0, [.fact 6, .fact 4], [⟨.one (.lit (.cb true)), []⟩], .quiet (mBin .lss)⟩,
   .base ⟨0, [.fact 7, .fact 6], [⟨.one (.p), [(0, 0, 10)]⟩], .joint [1] 9 (mIdx 23)⟩,
   .base ⟨0, [.fact 10], [⟨.agg [.b, .s], [(0, 0, 11)]⟩], .quietF [1] (mLoad 26)⟩,
   .base ⟨97, [.fact 11, .fact 1], [⟨.agg [.b, .s], [(0, 0, 12)]⟩, ⟨.one (.lit (.ci .i64 0)), []⟩], true⟩,
   .base ⟨0, [.fact 7, .fact 6], [⟨.one (.p), [(0, 0, 14)]⟩], .joint [1] 13 (mIdx 23)⟩,
   .base ⟨0, [.fact 7, .fact 6, .any, .fact 12], [⟨.one .s, [(0, 0, 15)]⟩], .put [] 1 0 13 (mPut 26 (.tmp 18) (.tmp 19))⟩,
   .base ⟨0, [.fact 6, .lit (.ci .i64 1)], [⟨.one (.i), [(0, 0, 16)]⟩], .quiet (mBin .add)⟩]
def o_pdivided_1 : List Step := [.base ⟨0, [.fact 6, .fact 4], [⟨.one (.lit (.cb false)), []⟩], .quiet (mBin .lss)⟩]
def ss_pdivided : List Step := [.base ⟨93, [.fact 0], [⟨.one (.s), [(0, 0, 2)]⟩], .callN [] 1⟩,
   .freed (.one (.s 4 0)) 2 3,
   .base ⟨0, [.fact 3], [⟨.one (.i), [(0, 0, 4)]⟩], .quiet (mLen 23)⟩,
   .loop d_pdivided_1 [(r_pdivided_1_0, [.from 16, .from 15, .from 0])] o_pdivided_1]
def ins_pdivided : List Out := [⟨.one (.s), [(0, 0, 0)]⟩, ⟨.agg [.b, .s], [(0, 0, 1)]⟩]
set_option maxRecDepth 100000 in
theorem pdivided {z : Nat -> Int} {n k l : Nat} {c : Int} {Z : List Int} (hn : n <= 1000000) (hk : k <= 400000) (hl : l <= 400000) (hZ : trimL (mk n z) = Z) (hc : 0 < Z.length -> c ≠ 0) (hd : ∀ i, i < Z.length -> c ∣ coef Z i) : SiteOk (ph (b_pdivided z n k l c Z)) Tryz.prog ⟨83, [.fact 0, .fact 1], [⟨.one (.s), [(0, 0, 5)]⟩], false⟩ := by
 have hZl : Z.length <= n := by rw [<- hZ, trimL_mk]; exact tl_le _ _
 exact fn_okL ins_pdivided [⟨.one (.s), [(0, 0, 5)]⟩] ss_pdivided Tryz.func83 (by kernel_rfl)
  (lbase (sNormN (fun _ _ h => Rw.to (sz := 2) (n := n) (F := (fun ι w v => IntV w v (z ι) k)) (h) (fun i w v _ h => (fun _ _ _ h => h) i w v h)) rfl (by omega) (by omega) hZ)
   (lfreed (freeLen (e := 26) (sz := 2) (n := Z.length) (F := (fun ι w v => NorV w v ((coef Z) ι) k)) (fun _ _ h => h) rfl)
   (lbase (qLenS' (n := Z.length) Tryz.underlying23 (fun _ _ h => h) rfl)
   (lloop (counted Z.length (fun j => ph (b_pdivided z n k l c Z ++ l_pdivided_1 k c Z j)) (fun _ => 0) (fun j p hp => ph_app' (show p < (b_pdivided z n k l c Z).length from hp)) ⟨fun _ => rfl, fun _ _ h => ArrO.to (sz := 2) (e := 26) (n := Z.length) (F := fun ι w v => NorV w v (coef Z ι) k) (G := fun ι w v => NorV w v (dvS (coef Z) c 0 ι) k) h fun a w v ha h => by rw [dvS_zero]; exact h, fun _ _ _ => trivial, trivial⟩ (fun j hj => by
   skip
   exact ⟨(r_pdivided_1_0, [.from 16, .from 15, .from 0]), rfl, ⟨fun _ _ h => h, fun _ _ h => h, fun _ _ _ => trivial, trivial⟩, (lbase (qTest (op := .lss) (fun _ _ h => h) (fun _ _ h => h) (ts_run (decide_eq_true (by omega)) (by simp)))
   (lbase (qIdxJ (i := j) (sz := 2) (n := Z.length) (F := (fun ι w v => NorV w v ((dvS (coef Z) c j) ι) k)) Tryz.underlying23 (by kernel_rfl) (fun _ _ h => ArrO.arr h) (fun _ _ h => h) (by omega) rfl rfl)
   (lbase (qLoadF (sz := 2) (F := fun w v => NorV w v ((dvS (coef Z) c j) j) k) (by kernel_rfl) (by kernel_rfl) (fun _ _ h => h) (fun _ _ _ g h => NorV.kp h g) (fun _ _ h => NorV.is h) rfl)
   (lbase (sExact nI iI rfl (by omega) (hc (by omega)) (by rw [dvS_self]; exact hd j hj) rfl)
   (lbase (qIdxJ (i := j) (sz := 2) (n := Z.length) (F := (fun ι w v => NorV w v ((dvS (coef Z) c j) ι) k)) Tryz.underlying23 (by kernel_rfl) (fun _ _ h => ArrO.arr h) (fun _ _ h => h) (by omega) rfl rfl)
   (lbase (qPutR (i := j) (n := Z.length) (F := (fun ι w v => NorV w v ((dvS (coef Z) c j) ι) k)) (F' := (fun ι w v => NorV w v ((dvS (coef Z) c (j + 1)) ι) k)) (G := fun w v => NorV w v (((dvS (coef Z) c j) j) / c) k) (.tmp 18) (.tmp 19) (by kernel_rfl) (fun _ _ h => h) (fun _ _ h => h) (by omega) (fun _ _ h => h) rfl (fun _ _ h => NorV.cells h) (fun _ _ _ _ g h => NorV.kp h g) (fun _ _ _ g h => NorV.kp h g) (fun a w v ha h => by rw [dvS_ne ha]; exact h) (fun w v h => h.eq dvS_at) rfl)
   (lbase (qAddK (fun _ _ h => h) (by omega) rfl (by omega) (by omega))
   lnil)))))))⟩)
   (lbase (qTest (op := .lss) (fun _ _ h => h) (fun _ _ h => h) (ts_run (decide_eq_false (by omega)) (by simp)))
   lnil)
   (fun q hq w v h => by
    simp only [d_pdivided_1, List.mem_cons, List.not_mem_nil, or_false] at hq
    rcases hq with rfl
    ·exact (fun h => h) h)) lnil))))
  (ins_ok [.fact 0 (.one (.s)), .fact 1 (.agg [.b, .s])] ⟨fun _ _ h => Rw.is (sz := 2) (F := (fun ι w v => IntV w v (z ι) k)) (n := n) h, fun _ _ h => IntV.is h, trivial⟩) (fun _ _ _ h => h)
section
variable {Φ : Nat -> World -> Value -> Prop} {p q x n m k l j : Nat} {z : Nat -> Int} {c : Int} {L : List Int} {zz : Nat -> Nat -> Int} {ln : Nat -> Nat}
theorem sDivided (hp : ∀ w v, Φ p w v -> Rw 2 (fun i w v => IntV w v (z i) k) n w v) (hq : ∀ w v, Φ q w v -> IntV w v c l) (hx : Φ x = fun w v => Rw 2 (fun i w v => NorV w v (coef L i) k) L.length w v) (hn : n <= 1000000) (hk : k <= 400000) (hl : l <= 400000) (hc : 0 < tl z n -> c ≠ 0) (hd : ∀ i, i < tl z n -> c ∣ z i) (hL : dvL z n c = L) : SiteOk Φ Tryz.prog ⟨83, [.fact p, .fact q], [⟨.one .s, [(0, 0, x)]⟩], false⟩ := by
 have hT : (trimL (mk n z)).length = tl z n := trimL_mk n z
 have hZ : ∀ i, i < tl z n -> coef (trimL (mk n z)) i = z i := fun i hi => by
  have := tl_le z n
  rw [coef_trim, coef_mk, if_pos (by omega)]
 refine viaG (pdivided (c := c) (l := l) (Z := trimL (mk n z)) hn hk hl rfl (by rw [hT]; exact hc) (fun i hi => by rw [hT] at hi; rw [hZ i hi]; exact hd i hi)) ⟨hp, hq, trivial⟩ ⟨⟨rfl, ⟨rfl, rfl, fun _ _ h => ?_⟩, trivial⟩, trivial⟩
 rw [hx, <- hL, dvL, mk_length, <- hT]
 exact Rw.to (sz := 2) (n := (trimL (mk n z)).length) (F := fun i w v => NorV w v (dvS (coef (trimL (mk n z))) c (trimL (mk n z)).length i) k) (ArrO.rw (e := 26) h) fun i w v hi h => h.eq (by
  rw [dvS, if_pos hi, coef_mk, if_pos hi, hZ i (hT ▸ hi)])
theorem qRowP1 {J : List Nat} (h0 : ∀ w v, Φ p w v -> Rw 2 (fun i w v => IntV w v (z i) k) n w v) (hx : Φ x = fun w v => Rw 1 (PRow (fun _ => z) (fun _ => n) k) 1 w v) : SiteOk Φ Tryz.prog ⟨0, [.any, .fact p], [⟨.one .s, [(0, 0, x)]⟩], .fresh J (mRow 112 1)⟩ :=
 qRowN (ps := [p]) (sz := 1) (zc := .one .nl) Tryz.underlying112 (by kernel_rfl) (by omega) (by kernel_rfl) (by omega) (by omega) rfl (fun i q h w v hv => by
  match i, h with
  | 0, h =>
   obtain rfl := Option.some.inj h
   have := rw_cells (h0 w v hv)
   rw [this]
   exact ⟨rfl, v, rfl, h0 w v hv⟩
  | i + 1, h => simp at h) hx
theorem sContent (hp : ∀ w v, Φ p w v -> Rw 1 (PRow zz ln k) n w v) (hx : Φ x = fun w v => NorV w v (gcdZ (coef (catL zz ln n)) (catL zz ln n).length : Int) k) (hn : n <= 1000) (hk : k <= 100000) (hs : ∀ j, j <= n -> (catL zz ln j).length <= 1000000) : SiteOk Φ Tryz.prog ⟨34, [.fact p], [⟨iS, [(0, 0, x)]⟩], false⟩ :=
 viaG (pcontent hn hk hs) ⟨hp, trivial⟩ ⟨⟨rfl, ⟨rfl, rfl, fun _ _ h => hx ▸ h⟩, trivial⟩, trivial⟩
theorem sContent1 (hp : ∀ w v, Φ p w v -> Rw 1 (PRow (fun _ => z) (fun _ => n) k) 1 w v) (hx : Φ x = fun w v => NorV w v (gcdZ z n : Int) k) (hn : n <= 1000000) (hk : k <= 100000) : SiteOk Φ Tryz.prog ⟨34, [.fact p], [⟨iS, [(0, 0, x)]⟩], false⟩ := by
 have e : catL (fun _ => z) (fun _ => n) 1 = mk n z := by simp [catL]
 refine sContent hp (hx.trans ?_) (by omega) hk (fun j hj => ?_)
 ·rw [e, mk_length, gcdZ_congr (f := coef (mk n z)) (g := z) fun i hi => by rw [coef_mk, if_pos hi]]
 ·match j, hj with
  | 0, _ => exact Nat.zero_le _
  | 1, _ => rw [e, mk_length]; exact hn
theorem NorV_sign {w : World} {v : Value} {y : Int} {k : Nat} (h : NorV w v y k) : ∃ s n c, v = .agg #[.bool (decide (y < 0)), .slice s n c] := by
 obtain ⟨⟨p, c, h1, -⟩, -⟩ := h
 exact ⟨_, _, _, h1⟩
theorem sLeadS {b : Bool} (hp : ∀ w v, Φ p w v -> Rw 2 (fun i w v => IntV w v (z i) k) n w v) (hx : Φ x = fun w v => NorV w v (ldZ z n) k) (hn : n <= 1000000) (hk : k <= 500000) (hb : decide (ldZ z n < 0) = b) : SiteOk Φ Tryz.prog ⟨45, [.fact p], [⟨.agg [.lit (.cb b), .s], [(0, 0, x)]⟩], false⟩ := fun X w vs hX ha => by
 refine (sLead (Φ := Φ) (p := p) (x := x) hp hx hn hk rfl X w vs hX ha).mono fun e w' ⟨hg, us, he, ho⟩ => ⟨hg, us, he, ?_⟩
 match us, ho with
 | [u], ho =>
  refine ⟨⟨?_, ho.1.2⟩, trivial⟩
  have h := ho.1.2 _ (List.mem_singleton.2 rfl) w' (Off.refl _ _)
  have h' : Φ x w' u := h
  rw [hx] at h'
  obtain ⟨s, n', c', rfl⟩ := NorV_sign h'
  exact ⟨[.bool (decide (ldZ z n < 0)), .slice s n' c'], rfl, by rw [hb]; rfl, ⟨_, _, _, rfl⟩, trivial⟩
end
def b_pprim_p (z : Nat -> Int) (n k : Nat) (P : List Int) : List (World -> Value -> Prop) := [fun w v => Rw 2 (fun ι w v => IntV w v (z ι) k) n w v, fun w v => Rw 1 (PRow (fun _ => z) (fun _ => n) k) 1 w v, fun w v => NorV w v (gcdZ z n : Int) k, fun w v => NorV w v (ldZ z n) k, fun w v => Rw 2 (fun ι w v => NorV w v ((coef P) ι) k) P.length w v]
def ss_pprim_p : List Step := [.base ⟨0, [.any, .fact 0], [⟨.one (.s), [(0, 0, 1)]⟩], .fresh [] (mRow 112 1)⟩,
   .base ⟨34, [.fact 1], [⟨.agg [.b, .s], [(0, 0, 2)]⟩], false⟩,
   .base ⟨45, [.fact 0], [⟨.agg [.lit (.cb false), .s], [(0, 0, 3)]⟩], false⟩,
   .base ⟨83, [.fact 0, .fact 2], [⟨.one (.s), [(0, 0, 4)]⟩], false⟩]
def ins_pprim_p : List Out := [⟨.one (.s), [(0, 0, 0)]⟩]
set_option maxRecDepth 100000 in
theorem pprim_p {z : Nat -> Int} {n k : Nat} {P : List Int} (hn : n <= 1000000) (hk : k <= 100000) (hs : decide (ldZ z n < 0) = false) (hP : dvL z n ((gcdZ z n : Int)) = P) (hc : 0 < tl z n -> (gcdZ z n : Int) ≠ 0) (hd : ∀ i, i < tl z n -> (gcdZ z n : Int) ∣ z i) : SiteOk (ph (b_pprim_p z n k P)) Tryz.prog ⟨31, [.fact 0], [⟨.agg [.b, .s], [(0, 0, 2)]⟩, ⟨.one (.s), [(0, 0, 4)]⟩], true⟩ := by
 skip
 exact fn_okL ins_pprim_p [⟨.agg [.b, .s], [(0, 0, 2)]⟩, ⟨.one (.s), [(0, 0, 4)]⟩] ss_pprim_p Tryz.func31 (by kernel_rfl)
  (lbase (qRowP1 (z := z) (n := n) (fun _ _ h => Rw.to (sz := 2) (n := n) (F := (fun ι w v => IntV w v (z ι) k)) (h) (fun i w v _ h => (fun _ _ _ h => h) i w v h)) rfl)
   (lbase (sContent1 (z := z) (n := n) (fun _ _ h => h) rfl (by omega) (by omega))
   (lbase (sLeadS (b := false) (z := z) (n := n) (fun _ _ h => Rw.to (sz := 2) (n := n) (F := (fun ι w v => IntV w v (z ι) k)) (h) (fun i w v _ h => (fun _ _ _ h => h) i w v h)) rfl (by omega) (by omega) (hs))
   (lbase (sDivided (z := z) (n := n) (fun _ _ h => Rw.to (sz := 2) (n := n) (F := (fun ι w v => IntV w v (z ι) k)) (h) (fun i w v _ h => (fun _ _ _ h => h) i w v h)) nI rfl (by omega) (by omega) (by omega) (hc) (hd) (hP))
   lnil))))
  (ins_ok [.fact 0 (.one (.s))] ⟨fun _ _ h => Rw.is (sz := 2) (F := (fun ι w v => IntV w v (z ι) k)) (n := n) h, trivial⟩) (fun _ _ _ h => h)
def b_pprim_n (z : Nat -> Int) (n k : Nat) (P : List Int) : List (World -> Value -> Prop) := [fun w v => Rw 2 (fun ι w v => IntV w v (z ι) k) n w v, fun w v => Rw 1 (PRow (fun _ => z) (fun _ => n) k) 1 w v, fun w v => NorV w v (gcdZ z n : Int) k, fun w v => NorV w v (ldZ z n) k, fun w v => NorV w v (-(gcdZ z n : Int)) k, fun w v => Rw 2 (fun ι w v => NorV w v ((coef P) ι) k) P.length w v]
def ss_pprim_n : List Step := [.base ⟨0, [.any, .fact 0], [⟨.one (.s), [(0, 0, 1)]⟩], .fresh [] (mRow 112 1)⟩,
   .base ⟨34, [.fact 1], [⟨.agg [.b, .s], [(0, 0, 2)]⟩], false⟩,
   .base ⟨45, [.fact 0], [⟨.agg [.lit (.cb true), .s], [(0, 0, 3)]⟩], false⟩,
   .base ⟨21, [.fact 2], [⟨.agg [.b, .s], [(0, 0, 4)]⟩], false⟩,
   .base ⟨83, [.fact 0, .fact 4], [⟨.one (.s), [(0, 0, 5)]⟩], false⟩]
def ins_pprim_n : List Out := [⟨.one (.s), [(0, 0, 0)]⟩]
set_option maxRecDepth 100000 in
theorem pprim_n {z : Nat -> Int} {n k : Nat} {P : List Int} (hn : n <= 1000000) (hk : k <= 100000) (hs : decide (ldZ z n < 0) = true) (hP : dvL z n (-(gcdZ z n : Int)) = P) (hc : 0 < tl z n -> -(gcdZ z n : Int) ≠ 0) (hd : ∀ i, i < tl z n -> -(gcdZ z n : Int) ∣ z i) : SiteOk (ph (b_pprim_n z n k P)) Tryz.prog ⟨31, [.fact 0], [⟨.agg [.b, .s], [(0, 0, 4)]⟩, ⟨.one (.s), [(0, 0, 5)]⟩], true⟩ := by
 skip
 exact fn_okL ins_pprim_n [⟨.agg [.b, .s], [(0, 0, 4)]⟩, ⟨.one (.s), [(0, 0, 5)]⟩] ss_pprim_n Tryz.func31 (by kernel_rfl)
  (lbase (qRowP1 (z := z) (n := n) (fun _ _ h => Rw.to (sz := 2) (n := n) (F := (fun ι w v => IntV w v (z ι) k)) (h) (fun i w v _ h => (fun _ _ _ h => h) i w v h)) rfl)
   (lbase (sContent1 (z := z) (n := n) (fun _ _ h => h) rfl (by omega) (by omega))
   (lbase (sLeadS (b := true) (z := z) (n := n) (fun _ _ h => Rw.to (sz := 2) (n := n) (F := (fun ι w v => IntV w v (z ι) k)) (h) (fun i w v _ h => (fun _ _ _ h => h) i w v h)) rfl (by omega) (by omega) (hs))
   (lbase (sNeg nI rfl (by omega) rfl)
   (lbase (sDivided (z := z) (n := n) (fun _ _ h => Rw.to (sz := 2) (n := n) (F := (fun ι w v => IntV w v (z ι) k)) (h) (fun i w v _ h => (fun _ _ _ h => h) i w v h)) nI rfl (by omega) (by omega) (by omega) (hc) (hd) (hP))
   lnil)))))
  (ins_ok [.fact 0 (.one (.s))] ⟨fun _ _ h => Rw.is (sz := 2) (F := (fun ι w v => IntV w v (z ι) k)) (n := n) h, trivial⟩) (fun _ _ _ h => h)
section
variable {Φ : Nat -> World -> Value -> Prop} {p q x y n m k l j : Nat} {z : Nat -> Int} {c : Int} {P : List Int}
theorem sPrim (hp : ∀ w v, Φ p w v -> Rw 2 (fun i w v => IntV w v (z i) k) n w v) (hx : Φ x = fun w v => NorV w v (pcon z n) k) (hy : Φ y = fun w v => Rw 2 (fun i w v => NorV w v (coef P i) k) m w v) (hn : n <= 1000000) (hk : k <= 100000) (hP : dvL z n (pcon z n) = P) (hm : P.length = m) : SiteOk Φ Tryz.prog ⟨31, [.fact p], [⟨iS, [(0, 0, x)]⟩, ⟨.one .s, [(0, 0, y)]⟩], true⟩ := by
 subst hm
 by_cases h : ldZ z n < 0
 ·have e : pcon z n = -(gcdZ z n : Int) := if_pos h
  rw [e] at hP
  exact viaG (pprim_n hn hk (decide_eq_true h) hP (fun h => e ▸ pcon_ne h) (fun i hi => e ▸ pcon_dvd i (Nat.lt_of_lt_of_le hi (tl_le _ _)))) ⟨hp, trivial⟩ ⟨⟨rfl, ⟨rfl, rfl, fun _ _ h => hx ▸ e ▸ h⟩, trivial⟩, ⟨rfl, ⟨rfl, rfl, fun _ _ h => hy ▸ h⟩, trivial⟩, trivial⟩
 ·have e : pcon z n = (gcdZ z n : Int) := if_neg h
  rw [e] at hP
  exact viaG (pprim_p hn hk (decide_eq_false h) hP (fun h => e ▸ pcon_ne h) (fun i hi => e ▸ pcon_dvd i (Nat.lt_of_lt_of_le hi (tl_le _ _)))) ⟨hp, trivial⟩ ⟨⟨rfl, ⟨rfl, rfl, fun _ _ h => hx ▸ e ▸ h⟩, trivial⟩, ⟨rfl, ⟨rfl, rfl, fun _ _ h => hy ▸ h⟩, trivial⟩, trivial⟩
end
def b_prest (z0 z1 : Nat -> Int) (n0 n1 k k1 nb m K : Nat) (c : Int) (Z P L2 R : List Int) : List (World -> Value -> Prop) := [fun w v => Rw 2 (fun ι w v => IntV w v (z0 ι) k) n0 w v, fun w v => Rw 2 (fun ι w v => IntV w v (z1 ι) k1) n1 w v, fun w v => NorV w v (pcon z1 n1) k1, fun w v => Rw 2 (fun ι w v => NorV w v ((coef P) ι) k1) (nb + 1) w v, fun _ v => v = .int .i64 (((nb + 1) : Nat) : Int), fun w v => ArrO 2 26 (fun ι w v => NorV w v ((coef Z) ι) k) Z.length w v, fun w v => ArrO 2 26 (fun ι w v => NorV w v ((dto m m (rdT (coef Z) (coef P) nb m c)) ι) K) m w v, fun w v => Rw 2 (fun ι w v => NorV w v ((coef L2) ι) K) L2.length w v, fun w v => Rw 1 (PRow (fun _ => (coef L2)) (fun _ => L2.length) K) 1 w v, fun w v => NorV w v (gcdZ (coef L2) L2.length : Int) K, fun w v => Rw 2 (fun ι w v => NorV w v ((coef R) ι) K) R.length w v]
def ss_prest : List Step := [.base ⟨31, [.fact 1], [⟨.agg [.b, .s], [(0, 0, 2)]⟩, ⟨.one (.s), [(0, 0, 3)]⟩], true⟩,
   .base ⟨0, [.fact 3], [⟨.one (.i), [(0, 0, 4)]⟩], .quiet (mLen 23)⟩,
   .base ⟨0, [.fact 4, .lit (.ci .i64 0)], [⟨.one (.lit (.cb false)), []⟩], .quiet (mBin .eql)⟩,
   .base ⟨93, [.fact 0], [⟨.one (.s), [(0, 0, 5)]⟩], .callN [] 1⟩,
   .base ⟨94, [.fact 5, .fact 3], [⟨.one (.s), [(0, 0, 6)]⟩, ⟨.one (.s), [(0, 0, 7)]⟩], .callW [] 1 2 0⟩,
   .base ⟨0, [.any, .fact 7], [⟨.one (.s), [(0, 0, 8)]⟩], .fresh [] (mRow 112 1)⟩,
   .base ⟨34, [.fact 8], [⟨.agg [.b, .s], [(0, 0, 9)]⟩], false⟩,
   .base ⟨83, [.fact 7, .fact 9], [⟨.one (.s), [(0, 0, 10)]⟩], false⟩]
def ins_prest : List Out := [⟨.one (.s), [(0, 0, 0)]⟩, ⟨.one (.s), [(0, 0, 1)]⟩]
set_option maxRecDepth 100000 in
theorem prest {z0 z1 : Nat -> Int} {n0 n1 k k1 nb m kp K : Nat} {c : Int} {Z P L2 R : List Int} (hn0 : n0 <= 1000000) (hn1 : n1 <= 900000) (hk : k <= 90000) (hk1 : k1 <= 90000) (hkK : k <= K) (hP : dvL z1 n1 (pcon z1 n1) = P) (hPl : P.length = nb + 1) (hnb : nb <= 800000) (hZ : trimL (mk n0 z0) = Z) (hZl : Z.length <= 1000000) (hm : m = Z.length - nb) (hkp : kp <= 100000) (hK : K <= 90000) (hc : ldZ (coef P) (nb + 1) = c) (hB : ∀ j, j <= m -> Bd (c ^ j).natAbs kp) (hA1 : ∀ j p, j < m -> Bd (rA1 (coef Z) (coef P) nb m c j p).natAbs K) (hM : ∀ j i p, j < m -> Bd (rMid (coef Z) (coef P) nb m c j i p).natAbs K) (hL2 : trimL (mk (min nb Z.length) (rdA (coef Z) (coef P) nb m c m)) = L2) (hL2l : L2.length <= 1000000) (hR : dvL (coef L2) L2.length (gcdZ (coef L2) L2.length : Int) = R) : SiteOk (ph (b_prest z0 z1 n0 n1 k k1 nb m K c Z P L2 R)) Tryz.prog ⟨43, [.fact 0, .fact 1], [⟨.one (.s), [(0, 0, 10)]⟩, ⟨.one (.lit (.ci .i64 0)), []⟩], true⟩ := by
 skip
 exact fn_okL ins_prest [⟨.one (.s), [(0, 0, 10)]⟩, ⟨.one (.lit (.ci .i64 0)), []⟩] ss_prest Tryz.func43 (by kernel_rfl)
  (lbase (sPrim (z := z1) (n := n1) (m := (nb + 1)) (fun _ _ h => Rw.to (sz := 2) (n := n1) (F := (fun ι w v => IntV w v (z1 ι) k1)) (h) (fun i w v _ h => (fun _ _ _ h => h) i w v h)) rfl rfl (by omega) (by omega) hP (hPl))
   (lbase (qLen (sz := 2) (n := (nb + 1)) (F := (fun ι w v => NorV w v ((coef P) ι) k1)) Tryz.underlying23 (fun _ _ h => Rw.arr h) rfl)
   (lbase (qTestC (op := .eql) (fun _ _ h => h) (ts_run (show decide ((((nb + 1) : Nat) : Int) = 0) = false from decide_eq_false (by omega)) (by simp)))
   (lbase (sNormN (fun _ _ h => Rw.to (sz := 2) (n := n0) (F := (fun ι w v => IntV w v (z0 ι) k)) (h) (fun i w v _ h => (fun _ _ _ h => h) i w v h)) rfl (by omega) (by omega) hZ)
   (lbase (sReduce (z := (coef Z)) (y := (coef P)) (n := nb) (m := m) (c := c) (L2 := L2) (la := Z.length) (l := k1) (kp := kp) (K := K) (fun _ _ h => ArrO.to (sz := 2) (e := 26) (n := Z.length) (F := (fun ι w v => NorV w v ((coef Z) ι) k)) (G := fun i w v => NorV w v ((coef Z) i) K) h fun _ _ _ _ h => NorV.more h (by omega)) (fun _ _ h => Rw.to (sz := 2) (n := (nb + 1)) (F := (fun ι w v => NorV w v ((coef P) ι) k1)) (h) (fun i w v _ h => (fun _ _ _ h => NorV.i h) i w v h)) rfl rfl (by omega) (by omega) (by omega) (by omega) (by omega) (by omega) hc hB hA1 hM hL2)
   (lbase (qRowP1 (z := (coef L2)) (n := L2.length) (fun _ _ h => Rw.to (sz := 2) (n := L2.length) (F := (fun ι w v => NorV w v ((coef L2) ι) K)) (h) (fun i w v _ h => (fun _ _ _ h => NorV.i h) i w v h)) rfl)
   (lbase (sContent1 (z := (coef L2)) (n := L2.length) (fun _ _ h => h) rfl (by omega) (by omega))
   (lbase (sDivided (z := (coef L2)) (n := L2.length) (fun _ _ h => Rw.to (sz := 2) (n := L2.length) (F := (fun ι w v => NorV w v ((coef L2) ι) K)) (h) (fun i w v _ h => (fun _ _ _ h => NorV.i h) i w v h)) nI rfl (by omega) (by omega) (by omega) (fun h => gcdZ_ne h) (fun i hi => gcdZ_dvd i (Nat.lt_of_lt_of_le hi (tl_le _ _))) (hR))
   lnil))))))))
  (ins_ok [.fact 0 (.one (.s)), .fact 1 (.one (.s))] ⟨fun _ _ h => Rw.is (sz := 2) (F := (fun ι w v => IntV w v (z0 ι) k)) (n := n0) h, fun _ _ h => Rw.is (sz := 2) (F := (fun ι w v => IntV w v (z1 ι) k1)) (n := n1) h, trivial⟩) (fun _ _ _ h => h)
end Go.Proofs.YteblgmjpociffaaGreat.Sym
