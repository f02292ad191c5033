/- Cut; a polynomial that came in. -/
import Derived.Test.YteblgmjpociffaaGreatPolX
import Derived.Test.YteblgmjpociffaaGreatRowRat
import Derived.Deep.Slices
namespace Go.Proofs.YteblgmjpociffaaGreat.Sym
open Go.RowKit Go.ChangeShapes Go.WideShapes Go.ChangeAt
def b_pcut5 (a : Nat -> Bool) (xs : Nat -> List Nat) (ez : Nat -> Int) (n0 K m N : Nat) : List (World -> Value -> Prop) := [fun w v => Rw 2 (fun ι w v => RawI w v (a ι) (xs ι)) n0 w v, fun _ v => v = .int .i64 ((K : Nat) : Int), fun _ v => v = .int .i64 ((m : Nat) : Int), fun w v => Rw 2 (fun ι w v => KI w v (a ι) ((fun ι => (xs ι).take m) ι) (ez ι) m) N w v, fun w v => Rw 4 (fun ι w v => DecQ w v ((((coef (trimL (mk N ez))) ι : Int) : Rat)) (m + 2 + 2)) ((trimL (mk N ez)).length) w v]
def ss_pcut5 : List Step := [.base ⟨50, [.fact 0, .fact 1, .fact 2], [⟨.one (.s), [(0, 0, 3)]⟩], false⟩,
   .base ⟨51, [.fact 3], [⟨.one (.s), [(0, 0, 4)]⟩], false⟩]
def ins_pcut5 : List Out := [⟨.one (.s), [(0, 0, 0)]⟩, ⟨.one (.i), [(0, 0, 1)]⟩, ⟨.one (.i), [(0, 0, 2)]⟩]
set_option maxRecDepth 100000 in
theorem pcut5 {a : Nat -> Bool} {xs : Nat -> List Nat} {ez : Nat -> Int} {n0 K m N : Nat} (hn : n0 <= 9223372036854775807) (hK : K <= 1000000) (hm : m <= 50000) (hz : ∀ j, sg (a j) (Proofs.YteblgmjpociffaaGreat.val 4294967296 ((xs j).take m)) = ez j) (hN : min n0 K = N) : SiteOk (ph (b_pcut5 a xs ez n0 K m N)) Tryz.prog ⟨11, [.fact 0, .fact 1, .fact 2], [⟨.one (.s), [(0, 0, 3)]⟩, ⟨.one (.s), [(0, 0, 4)]⟩], true⟩ := by
 skip
 exact fn_okL ins_pcut5 [⟨.one (.s), [(0, 0, 3)]⟩, ⟨.one (.s), [(0, 0, 4)]⟩] ss_pcut5 Tryz.func11 (by kernel_rfl)
  (lbase (sKPolyJ K m (fun _ _ h => h) (fun _ _ h => h) (fun _ _ h => h) rfl hn (by omega) hz hN)
   (lbase (sFromP (z := ez) (n := N) (L := (trimL (mk N ez))) (fun _ _ h => Rw.to (sz := 2) (n := N) (F := (fun ι w v => KI w v (a ι) ((fun ι => (xs ι).take m) ι) (ez ι) m)) (h) (fun i w v _ h => (fun _ _ _ h => And.right h) i w v h)) rfl (by omega) (by omega) rfl)
   lnil))
  (ins_ok [.fact 0 (.one (.s)), .fact 1 (.one (.i)), .fact 2 (.one (.i))] ⟨fun _ _ h => Rw.is (sz := 2) (F := (fun ι w v => RawI w v (a ι) (xs ι))) (n := n0) h, fun _ _ h => h ▸ int_is _, fun _ _ h => h ▸ int_is _, trivial⟩) (fun _ _ _ h => h)
section
variable {Φ : Nat -> World -> Value -> Prop} {p x y n n0 : Nat} {z : Nat -> Int}
theorem sCut5 {a : Nat -> Bool} {xs : Nat -> List Nat} {Ki mi : Int} (K m : Nat) (hKi : (K : Int) = Ki) (hmi : (m : Int) = mi) (hp : ∀ w v, Φ p w v -> Rw 2 (fun i w v => RawI w v (a i) (xs i)) n0 w v) (hx : Φ x = fun w v => Rw 2 (fun i w v => KI w v (a i) ((xs i).take m) (z i) m) n w v) (hy : Φ y = fun w v => Rw 4 (fun i w v => DecQ w v ((coef (trimL (mk n z)) i : Int) : Rat) (m + 2 + 2)) (trimL (mk n z)).length w v)
  (hn : n0 <= 9223372036854775807) (hK : K <= 1000000) (hm : m <= 50000) (hz : ∀ j, sg (a j) (Proofs.YteblgmjpociffaaGreat.val 4294967296 ((xs j).take m)) = z j) (hN : min n0 K = n) :
  SiteOk Φ Tryz.prog ⟨11, [.fact p, .lit (.ci .i64 Ki), .lit (.ci .i64 mi)], [⟨.one .s, [(0, 0, x)]⟩, ⟨.one .s, [(0, 0, y)]⟩], true⟩ := by
 subst hKi
 subst hmi
 exact viaG (pcut5 hn hK hm hz hN) ⟨hp, fun _ => rfl, fun _ => rfl, trivial⟩ ⟨⟨rfl, ⟨rfl, rfl, fun _ _ h => hx ▸ h⟩, trivial⟩, ⟨rfl, ⟨rfl, rfl, fun _ _ h => hy ▸ h⟩, trivial⟩, trivial⟩
end
set_option maxRecDepth 100000 in
theorem poly_of_trod {H : Type} {enc : TypeId × Value -> H} {W : World} {base base' : Nat} {held : Bool} {v : Value} {d : DataW H} {ps : List MemPlace}
  (h : DataW.Trod enc Tryz.prog W base (fun _ => true) held 23 v d ps) (hv : Value.okWide Tryz.prog W .any base' 23 v) : ∃ (n : Nat) (a : Nat -> Bool) (xs : Nat -> List Nat), n <= 9223372036854775807 ∧ Rw 2 (fun i w v => RawI w v (a i) (xs i)) n W v := by
 obtain ⟨a0, len, cap, rfl⟩ := okWide_slice Tryz.underlying23 hv
 obtain ⟨fuel, hf⟩ := h
 rcases Deep.open_slice Tryz.underlying23 hf with ⟨hcs, _⟩ | ⟨a, len', cap', m, n, D, Pl, hcs, _, hl, hm, hmm, _, hx⟩
 ·simp [Value.cells] at hcs
  obtain ⟨rfl, rfl, rfl⟩ := hcs
  exact ⟨0, fun _ => false, fun _ => [], by omega, none, 0, rfl, Nat.le_refl _, fun i hi => by omega⟩
 ·simp [Value.cells] at hcs
  obtain ⟨rfl, rfl, rfl⟩ := hcs
  simp only [if_true] at hmm
  have each : ∀ i, i < len -> ∃ q : Bool × List Nat × List Value, q.2.2.length = 2 ∧ (∀ (j : Nat) (u : Value), q.2.2[j]? = some u -> W.cell? (a.add (i * 2 + j)) = some u) ∧ RawI W (.agg q.2.2.toArray) q.1 q.2.1 := fun i hi => by
   obtain ⟨cs, h1, h2⟩ := hx i (by omega)
   rw [Tryz.cells24] at h1
   obtain ⟨_, hlen, hcell⟩ := World.cells?_some h1
   match cs, hlen with
   | [c0, c1], _ =>
    obtain ⟨b, xs, rfl, h5, h6⟩ := int_of_cells h2
    refine ⟨(b, xs, [.bool b, c1]), rfl, fun j u hj => ?_, ⟨_, rfl, h5, h6⟩⟩
    have hlt := (List.getElem?_eq_some_iff.1 hj).1
    have e := hcell j (by simpa using hlt)
    rw [Deep.add_add] at e
    rw [e]
    exact hj
  obtain ⟨q, hq⟩ := Deep.choose_lt each
  refine ⟨len, fun i => (q i).1, fun i => (q i).2.1, ?_, some a, cap, rfl, hl, fun i hi => ?_⟩
  ·have : maxLen <= 9223372036854775807 := by decide
   omega
  obtain ⟨h1, h2, h3⟩ := hq i hi
  obtain ⟨b, off, spot⟩ := a
  obtain ⟨g1, g2, -⟩ := hq 0 (by omega)
  have h0 := g2 0 ((q 0).2.2[0]'(by omega)) (List.getElem?_eq_getElem (by omega))
  have hspot : spot = none := by simpa [Addr.add] using World.cell?_spot h0
  subst hspot
  refine ⟨b, off, rfl, (q i).2.2, h1, fun j u hj => ?_, h3⟩
  have := h2 j u hj
  rw [Addr.add_lit] at this
  rw [Nat.add_assoc]; exact this
theorem arg_poly {Φ : Nat -> World -> Value -> Prop} {p n : Nat} {a : Nat -> Bool} {xs : Nat -> List Nat} {w : World} {v : Value} (h : Rw 2 (fun i w v => RawI w v (a i) (xs i)) n w v) (hp : Φ p = fun w v => Rw 2 (fun i w v => RawI w v (a i) (xs i)) n w v := by rfl) : (Arg.fact p).ok Φ (fun _ => False) w v :=
 Rw.arg (F := fun i w v => RawI w v (a i) (xs i)) (fun _ _ _ _ g h => RawI.kp h g) h hp (fun _ h => h.elim)
end Go.Proofs.YteblgmjpociffaaGreat.Sym
