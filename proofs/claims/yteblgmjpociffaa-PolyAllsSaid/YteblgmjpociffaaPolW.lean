/- poly.Move. -/
import Derived.Test.YteblgmjpociffaaPolV
namespace Go.Proofs.Yteblgmjpociffaa.Sym
open Go.RowKit
def hsum (c : Nat → Int) (u : Int) : Nat → Nat → Int
  | 0, _ => 0
  | r + 1, i => c i + hsum c u r (i + 1) * u
def shS (c : Nat → Int) (u : Int) (m : Nat) : Nat → Nat → Int
  | 0, i => c i
  | j + 1, i => if i < j then shS c u m j i else hsum (shS c u m j) u (m - i) i
theorem shS_is (c : Nat → Int) (u : Int) (m : Nat) : IsShift (shS c u m) u m where
  low j i _ hi := by simp only [shS]; exact if_pos hi
  top j hj := by
    simp only [shS]
    rw [if_neg (by omega), show m - (m - 1) = 0 + 1 by omega]
    simp only [hsum]; omega
  step j i hi hn := by
    simp only [shS]
    rw [if_neg (by omega), if_neg (by omega), show m - i = (m - (i + 1)) + 1 by omega]
    rfl
def wdC (z : Nat → Int) (n : Nat) (d : Int) (i : Nat) : Int := z i * d ^ (tl z n - 1 - i)
def mvS (z : Nat → Int) (n : Nat) (u d : Int) : Nat → Nat → Int := shS (wdC z n d) u (tl z n)
/-- The numbers of d^k z(t + u / d). -/
def mvL (z : Nat → Int) (n : Nat) (u d : Int) : List Int := mk (tl z n) fun i => mvS z n u d (tl z n) i * d ^ i
theorem viaN {P : Program} {Φ Ψ : Nat → World → Value → Prop} {f : FuncId} {ar ar' : List Arg} {outs outs' : List Out} {md md' : Mode} (h : CallNOk Ψ P ⟨f, ar', outs', md'⟩) (ha : argMap Φ Ψ ar ar') (ho : outMap Ψ Φ outs' outs) : CallNOk Φ P ⟨f, ar, outs, md⟩ :=
  fun X w vs hX h' => (h X w vs hX (ha.ok h')).mono fun _ _w' ⟨hg, u, he, h2, h3⟩ => ⟨hg, u, he, ho.ok h2, h3⟩
theorem CallNOk.call {P : Program} {Φ : Nat → World → Value → Prop} {f : FuncId} {ar : List Arg} {outs : List Out} {md : Mode} (h : CallNOk Φ P ⟨f, ar, outs, md⟩) : SiteOk Φ P ⟨f, ar, outs, false⟩ :=
  fun X w vs hX h' => (h X w vs hX h').mono fun _ _w' ⟨hg, u, he, h2, _⟩ => ⟨hg, [u], he, h2⟩
theorem ArrO.off {sz n : Nat} {e : TypeId} {F : Nat → World → Value → Prop} {w w1 : World} {v : Value} {X : Nat → Prop} (hF : ∀ i w w1 v, Kp w w1 → F i w v → F i w1 v) (h : ArrO sz e F n w v) (ho : Off X w w1) (hb : ∀ g, blk v = some g → ¬ X g) : ArrO sz e F n w1 v := by
  obtain ⟨rows, r1, r2, r3, r4⟩ := h
  refine ⟨rows, r1, r2, r3.keep fun g hg => ho.2 g (r3.lt g hg) (hb g (by rw [blk_own]; exact hg)), fun i r hr => hF _ _ _ _ ho.1 (r4 i r hr)⟩
section
variable {Φ : Nat → World → Value → Prop} {p q r x n k ku kd kp K : Nat} {z : Nat → Int} {u d : Int}
theorem sWide (hp : ∀ w v, Φ p w v → Rw 2 (fun i w v => IntV w v (z i) k) n w v) (hq : ∀ w v, Φ q w v → IntV w v d kd) (hx : Φ x = fun w v => ArrO 2 36 (fun i w v => NorV w v (wdC z n d i) K) (tl z n) w v)
    (hn : n ≤ 1000000) (hk : k ≤ 400000) (hkd : kd ≤ 100000) (hkp : kp ≤ 100000) (hK : k + kp ≤ K) (hB : ∀ j, j ≤ tl z n → Bd (d ^ j).natAbs kp) : SiteOk Φ Try.prog ⟨68, [.fact p, .fact q], [⟨.one .s, [(0, 0, x)]⟩], .callN [] 1⟩ :=
  viaN (pwide hn hk hkd hkp hK hB) ⟨hp, hq, trivial⟩ ⟨⟨rfl, ⟨rfl, rfl, fun _ _ h => by
    rw [hx]
    exact ArrO.to (sz := 2) (e := 36) (n := tl z n) (F := fun i w v => NorV w v (dto (tl z n) (tl z n) (fun i => z i * d ^ (tl z n - 1 - i)) i) K) h fun i w v hi h => h.eq (by unfold dto; rw [if_pos (by omega)]; rfl)⟩, trivial⟩, trivial⟩
theorem sNarr {L : List Int} (hp : ∀ w v, Φ p w v → Rw 2 (fun i w v => IntV w v (z i) k) n w v) (hq : ∀ w v, Φ q w v → IntV w v d kd) (hx : Φ x = fun w v => Rw 2 (fun i w v => NorV w v (coef L i) K) L.length w v)
    (hn : n ≤ 1000000) (hk : k ≤ 400000) (hkd : kd ≤ 100000) (hkp : kp ≤ 100000) (hK : k + kp ≤ K) (hB : ∀ j, j ≤ n → Bd (d ^ j).natAbs kp) (hL : mk n (fun i => z i * d ^ i) = L) : SiteOk Φ Try.prog ⟨70, [.fact p, .fact q], [⟨.one .s, [(0, 0, x)]⟩], false⟩ :=
  viaG (pnarr hn hk hkd hkp hK hB) ⟨hp, hq, trivial⟩ ⟨⟨rfl, ⟨rfl, rfl, fun _ _ h => by
    rw [hx, ← hL, mk_length]
    exact Rw.to (ArrO.rw (e := 36) (F := fun i w v => NorV w v (upto n (fun i => z i * d ^ i) i) K) h) fun i w v hi h => h.eq (by rw [upto_lt hi, coef_mk, if_pos hi])⟩, trivial⟩, trivial⟩
theorem sShift {S : Nat → Nat → Int} (hp : ∀ w v, Φ p w v → ArrO 2 36 (fun i w v => IntV w v (S 0 i) K) n w v) (hq : ∀ w v, Φ q w v → IntV w v u ku) (hx : Φ x = fun w v => ArrO 2 36 (fun i w v => IntV w v (S n i) K) n w v) (hn : n ≤ 1000000) (hk : K ≤ 400000) (hku : ku ≤ 100000) (hS : IsShift S u n) (hM : ∀ j a, j ≤ n → a < n → Bd (S j a).natAbs K) :
    SiteOk Φ Try.prog ⟨69, [.fact p, .fact q], [⟨.one .s, [(0, 0, x)]⟩], .callM [] 1 0⟩ := fun X L W0 w vs hg hX hL hLX ha hb => by
  match vs, ha with
  | [v, y], ha =>
    have h1 := hp _ _ (ha.1 w (Off.refl _ _))
    have h2 := hq _ _ (ha.2.1 w (Off.refl _ _))
    obtain ⟨s0, c, rfl, _⟩ := h1.arr
    have hbl : ∀ g, blk (.slice s0 n c) = some g → L g := fun g hg => hb _ g rfl hg
    refine (mut_call (vs := [.slice s0 n c, y]) (pshift (s0 := s0) (n0 := n) (m0 := c) (w0 := w) hn hk hku hS hM) rfl rfl hg ⟨⟨⟨⟨_, _, _, rfl⟩, fun _ h => by cases h⟩, fun c' hc w1 hw => ?_⟩, ⟨IntV.is h2, fun c' hc w1 hw => ?_⟩, trivial⟩ (fun g hg => hL g (hbl g hg)) (fun w1 hk hh => ?_)).mono fun e w' ⟨he, hgr, hkp, hq'⟩ => ⟨he, _, hgr, fun g hg => hbl g hg, hkp, fun y hy => ?_⟩
    · simp only [List.mem_cons, List.not_mem_nil, or_false] at hc
      rcases hc with rfl | rfl
      · rfl
      · exact Pin.off (u := .slice s0 n c) hw
    · simp only [List.mem_cons, List.not_mem_nil, or_false] at hc
      subst hc
      exact h2.kp hw.1
    · exact ArrO.off (X := fun _ => False) (F := fun i w v => IntV w v (S 0 i) K) (fun _ _ _ _ g h => IntV.kp h g) h1 ⟨hk, fun k hk' _ => hh k hk'⟩ (fun _ _ h => h)
    · simp only [List.getElem?_cons_zero, Option.some.injEq] at hy
      subst hy
      exact one_out ⟨⟨_, _, _, rfl⟩, fun _ h => by cases h⟩ hx fun w1 hw => ArrO.off (fun _ _ _ _ g h => IntV.kp h g) (F := fun i w v => IntV w v (S n i) K) hq' hw fun g hg => hLX g (hbl g hg)
end
def b_pmove (z : Nat → Int) (n k : Nat) (u d : Int) (ku kd K1 K2 K3 : Nat) : List (World → Value → Prop) := [fun w v => Rw 2 (fun ι w v => IntV w v (z ι) k) n w v, fun w v => IntV w v u ku, fun w v => IntV w v d kd, fun w v => NorV w v 0 0, fun _ v => v = .int .i64 (cmpI d (0 : Int)), fun w v => ArrO 2 36 (fun ι w v => NorV w v ((wdC z n d) ι) K1) (tl z n) w v, fun w v => ArrO 2 36 (fun ι w v => IntV w v ((mvS z n u d (tl z n)) ι) K2) (tl z n) w v, fun w v => Rw 2 (fun ι w v => NorV w v ((coef (mvL z n u d)) ι) K3) ((mvL z n u d).length) w v]
def ss_pmove : List Step := [.derive (.agg [.cb false, .nl]) (.agg [.lit (.cb false), .lit (.nl)]) [] 3,
      .base ⟨58, [.fact 2, .fact 3], [⟨.one (.i), [(0, 0, 4)]⟩], false⟩,
      .base ⟨0, [.fact 4, .lit (.ci .i64 0)], [⟨.one (.lit (.cb false)), []⟩], .quiet (mBin .eql)⟩,
      .base ⟨68, [.fact 0, .fact 2], [⟨.one (.s), [(0, 0, 5)]⟩], .callN [] 1⟩,
      .base ⟨69, [.fact 5, .fact 1], [⟨.one .s, [(0, 0, 6)]⟩], .callM [] 1 0⟩,
      .base ⟨70, [.fact 6, .fact 2], [⟨.one (.s), [(0, 0, 7)]⟩], .callJ [1] false⟩]
def ins_pmove : List Out := [⟨.one (.s), [(0, 0, 0)]⟩, ⟨.agg [.b, .s], [(0, 0, 1)]⟩, ⟨.agg [.b, .s], [(0, 0, 2)]⟩]
set_option maxRecDepth 100000 in
theorem pmove {z : Nat → Int} {n k : Nat} {u d : Int} {ku kd kp K1 K2 K3 : Nat} (hn : n ≤ 1000000) (hk : k ≤ 400000) (hku : ku ≤ 100000) (hkd : kd ≤ 100000) (hd : d ≠ 0) (hkp : kp ≤ 100000) (hK : k + kp ≤ K1) (hK1 : K1 ≤ K2) (hK2 : K2 ≤ 300000) (hK3 : K2 + kp ≤ K3) (hB : ∀ j, j ≤ tl z n → Bd (d ^ j).natAbs kp) (hM : ∀ j a, j ≤ tl z n → a < tl z n → Bd (mvS z n u d j a).natAbs K2) : SiteOk (ph (b_pmove z n k u d ku kd K1 K2 K3)) Try.prog ⟨34, [.fact 0, .fact 1, .fact 2], [⟨.one (.s), [(0, 0, 7)]⟩, ⟨.one (.lit (.ci .i64 0)), []⟩], true⟩ := by
  have hle := tl_le z n
  exact fn_okL ins_pmove [⟨.one (.s), [(0, 0, 7)]⟩, ⟨.one (.lit (.ci .i64 0)), []⟩] ss_pmove Try.func34 (by kernel_rfl)
    (lderive (derive0 rfl)
      (lbase (sCmpJ iI nI rfl (by omega) rfl)
      (lbase (qTestC (op := .eql) (fun _ _ h => h) (ts_run (decide_eq_false (fun h => hd (cmpI_zero h))) (by simp)))
      (lbase (sWide (kp := kp) (fun _ _ h => Rw.to (sz := 2) (n := n) (F := (fun ι w v => IntV w v (z ι) k)) (h) (fun i w v _ h => (fun _ _ _ h => h) i w v h)) iI rfl hn (by omega) (by omega) (by omega) (by omega) hB)
      (lbase (sShift (S := mvS z n u d) (n := (tl z n)) (K := K2) (fun _ _ h => ArrO.to (sz := 2) (e := 36) (n := (tl z n)) (F := (fun ι w v => NorV w v ((wdC z n d) ι) K1)) (G := (fun ι w v => IntV w v ((mvS z n u d 0) ι) K2)) h fun _ _ _ _ h => (NorV.i h).more hK1) iI rfl (by omega) (by omega) (by omega) (shS_is _ _ _) hM)
      (lbase (onJ [1] (sNarr (z := mvS z n u d (tl z n)) (n := (tl z n)) (kp := kp) (fun _ _ h => Rw.to (sz := 2) (n := (tl z n)) (F := (fun ι w v => IntV w v ((mvS z n u d (tl z n)) ι) K2)) (ArrO.rw h) (fun i w v _ h => (fun _ _ _ h => h) i w v h)) iI rfl (by omega) (by omega) (by omega) (by omega) (by omega) hB rfl))
      lnil))))))
    (ins_ok [.fact 0 (.one (.s)), .fact 1 (.agg [.b, .s]), .fact 2 (.agg [.b, .s])] ⟨fun _ _ h => Rw.is (sz := 2) (F := (fun ι w v => IntV w v (z ι) k)) (n := n) h, fun _ _ h => IntV.is h, fun _ _ h => IntV.is h, trivial⟩) (fun _ _ _ h => h)

section
variable {Φ : Nat → World → Value → Prop} {p q r x n k ku kd kp K1 K2 K3 : Nat} {z : Nat → Int} {u d : Int}
theorem sMove {L : List Int} (hp : ∀ w v, Φ p w v → Rw 2 (fun i w v => IntV w v (z i) k) n w v) (hq : ∀ w v, Φ q w v → IntV w v u ku) (hr : ∀ w v, Φ r w v → IntV w v d kd) (hx : Φ x = fun w v => Rw 2 (fun i w v => NorV w v (coef L i) K3) L.length w v)
    (hn : n ≤ 1000000) (hk : k ≤ 400000) (hku : ku ≤ 100000) (hkd : kd ≤ 100000) (hd : d ≠ 0) (hkp : kp ≤ 100000) (hK : k + kp ≤ K1) (hK1 : K1 ≤ K2) (hK2 : K2 ≤ 300000) (hK3 : K2 + kp ≤ K3) (hB : ∀ j, j ≤ tl z n → Bd (d ^ j).natAbs kp) (hM : ∀ j a, j ≤ tl z n → a < tl z n → Bd (mvS z n u d j a).natAbs K2) (hL : mvL z n u d = L) :
    SiteOk Φ Try.prog ⟨34, [.fact p, .fact q, .fact r], [⟨.one .s, [(0, 0, x)]⟩, ⟨.one (.lit (.ci .i64 0)), []⟩], true⟩ :=
  viaG (pmove hn hk hku hkd hd hkp hK hK1 hK2 hK3 hB hM) ⟨hp, hq, hr, trivial⟩ ⟨⟨rfl, ⟨rfl, rfl, fun _ _ h => hx ▸ hL ▸ h⟩, trivial⟩, ⟨rfl, trivial⟩, trivial⟩
end
end Go.Proofs.Yteblgmjpociffaa.Sym
