/- poly.At; the reference's At, Whole, Sign, Ends. -/
import Derived.Test.YtncaiomdcpppeaaGreatPolZ
import Derived.Test.YtncaiomdcpppeaaGreatPolQ
namespace Go.Proofs.YtncaiomdcpppeaaGreat.Sym
open Go.RowKit
theorem den_pow_ne (q : Rat) (j : Nat) : ((q.den : Nat) : Int) ^ j ≠ 0 := Int.pow_ne_zero (by have := q.den_nz; omega)
theorem DecI.re {w : World} {v : Value} {z : Int} {k l : Nat} (h : DecI w v z k) (hb : Bd z.natAbs l) : DecI w v z l := by
  obtain ⟨p, c, h1, h2⟩ := h
  exact ⟨p, c, h1, h2.1, hb⟩
theorem DecQ.re {w : World} {v : Value} {q : Rat} {k l : Nat} (h : DecQ w v q k) (h1 : Bd q.num.natAbs l) (h2 : Bd q.den l) : DecQ w v q l := by
  obtain ⟨p, n, c, b, p', n', c', b', h3, h4, h5⟩ := h
  exact ⟨p, n, c, b, p', n', c', b', h3, DecI.re h4 h1, DecI.re h5 (by rw [Int.natAbs_natCast]; exact h2)⟩
theorem DecI.zero (w : World) (k : Nat) : DecI w (.agg #[.slice none 0 0, .bool false]) 0 k := by
  refine ⟨none, 0, by simp [dig, digF], ?_, by show (0 : Int).natAbs < _; exact Nat.pow_pos (by omega)⟩
  simpa [dig, digF] using Sl.nil w .i64
theorem DecI.n1 {z : Int} {k : Nat} {w : World} {l : List Value} (h : DecI w (.agg l.toArray) (((z : Int) : Rat).den : Int) k) : ∃ s, Value.agg ((l.drop 0).take 1).toArray = .agg #[s] ∧ Arr 1 (fun _ _ v => v = .agg #[.int .i64 1]) 1 w s := by
  have h' : DecI w (.agg l.toArray) 1 k := h
  obtain ⟨p, c, e, -⟩ := id h'
  have e1 : (dig 10000 (1 : Int).natAbs).length = 1 := by decide
  rw [e1] at e
  simp only [Value.agg.injEq] at e
  have hl : l = [.slice p 1 c, .bool (decide ((1 : Int) < 0))] := by have := congrArg Array.toList e; simpa using this
  subst hl
  obtain ⟨blk, off, rfl, hc⟩ := DecI.one h'
  refine ⟨.slice (some ⟨blk, off, none⟩) 1 c, rfl, _, _, rfl, fun i hi => ⟨blk, off, rfl, [.int .i64 1], rfl, fun j u hj => ?_, rfl⟩⟩
  cases j with
  | succ j => simp at hj
  | zero =>
    simp only [List.getElem?_cons_zero, Option.some.injEq] at hj
    subst hj
    obtain rfl : i = 0 := by omega
    have hc' : w.cell? ⟨blk, off, none⟩ = some (.int .i64 1) := hc
    simpa using hc'
section
variable {P : Program} {Φ : Nat → World → Value → Prop} {p q x : Nat}
end
def b_pat (z : Nat → Int) (n k : Nat) (q : Rat) (kt kn : Nat) : List (World → Value → Prop) := [fun w v => Rw 2 (fun ι w v => IntV w v (z ι) k) n w v, fun w v => RatV w v q kt, fun w v => NorV w v (hN z (tl z n) q.num q.den ((tl z n) - 1)) kn, fun w v => NorV w v (((q.den : Nat) : Int) ^ ((tl z n) - 1)) kn, fun w v => NorQ w v (Rat.divInt (hN z (tl z n) q.num q.den ((tl z n) - 1)) (((q.den : Nat) : Int) ^ ((tl z n) - 1))) (kn + kn), fun w v => NorV w v ((Rat.divInt (hN z (tl z n) q.num q.den ((tl z n) - 1)) (((q.den : Nat) : Int) ^ ((tl z n) - 1))).num) (kn + kn), fun w v => NorV w v ((Rat.divInt (hN z (tl z n) q.num q.den ((tl z n) - 1)) (((q.den : Nat) : Int) ^ ((tl z n) - 1))).den : Int) (kn + kn)]
def ss_pat : List Step := [.base ⟨79, [.fact 0, .fact 1], [⟨.agg [.b, .s], [(0, 0, 2)]⟩, ⟨.agg [.b, .s], [(0, 0, 3)]⟩], true⟩,
      .base ⟨78, [.fact 2, .fact 3], [⟨.agg [.b, .s, .b, .s], [(0, 0, 4), (0, 2, 5), (2, 2, 6)]⟩, ⟨.one (.lit (.ci .i64 0)), []⟩], true⟩]
def ins_pat : List Out := [⟨.one (.s), [(0, 0, 0)]⟩, ⟨.agg [.b, .s, .b, .s], [(0, 0, 1)]⟩]
set_option maxRecDepth 100000 in
theorem pat {z : Nat → Int} {n k : Nat} {q : Rat} {kt kn : Nat} (hn : n ≤ 1000000) (hk : k ≤ 40000) (hkt : kt ≤ 30000) (hkn : kn ≤ 50000) (hB : ∀ j, j ≤ (tl z n) - 1 → Bd (hN z (tl z n) q.num q.den j).natAbs kn ∧ Bd (((q.den : Nat) : Int) ^ j).natAbs kn) : SiteOk (ph (b_pat z n k q kt kn)) Tryz.prog ⟨21, [.fact 0, .fact 1], [⟨.agg [.b, .s, .b, .s], [(0, 0, 4), (0, 2, 5), (2, 2, 6)]⟩], false⟩ := by
  skip
  exact fn_okL ins_pat [⟨.agg [.b, .s, .b, .s], [(0, 0, 4), (0, 2, 5), (2, 2, 6)]⟩] ss_pat Tryz.func21 (by kernel_rfl)
    (lbase (sValue5 (z := z) (n := n) (fun _ _ h => Rw.to (sz := 2) (n := n) (F := (fun ι w v => IntV w v (z ι) k)) (h) (fun i w v _ h => (fun _ _ _ h => h) i w v h)) qQ rfl rfl (by omega) (by omega) (by omega) (by omega) hB)
      (lbase (sRMake nI nI rfl rfl rfl (by omega) (den_pow_ne q _) rfl)
      lnil))
    (ins_ok [.fact 0 (.one (.s)), .fact 1 (.agg [.b, .s, .b, .s])] ⟨fun _ _ h => Rw.is (sz := 2) (F := (fun ι w v => IntV w v (z ι) k)) (n := n) h, fun _ _ h => RatV.is h, trivial⟩) (fun _ _ _ h => h)

section
variable {Φ : Nat → World → Value → Prop} {p q x x1 x2 n k kr kk i : Nat} {z : Nat → Int} {r : Rat}
end
section
variable {Φ : Nat → World → Value → Prop} {p q x n k kr kk : Nat} {z : Nat → Int} {r : Rat}
end
section
variable {Φ : Nat → World → Value → Prop} {p q x x1 x2 y n k kr kk kt kn : Nat} {z : Nat → Int} {r : Rat}
theorem sPAt {q' : Rat} {t : Rat} (hp : ∀ w v, Φ p w v → Rw 2 (fun i w v => IntV w v (z i) k) n w v) (hr : ∀ w v, Φ q w v → RatV w v q' kt) (hx : Φ x = fun w v => NorQ w v t (kn + kn)) (hx1 : Φ x1 = fun w v => NorV w v t.num (kn + kn)) (hx2 : Φ x2 = fun w v => NorV w v (t.den : Int) (kn + kn)) (hn : n ≤ 1000000) (hk : k ≤ 40000) (hkt : kt ≤ 30000) (hkn : kn ≤ 50000) (hB : ∀ j, j ≤ tl z n - 1 → Bd (hN z (tl z n) q'.num q'.den j).natAbs kn ∧ Bd (((q'.den : Nat) : Int) ^ j).natAbs kn) (ht : Rat.divInt (hN z (tl z n) q'.num q'.den (tl z n - 1)) (((q'.den : Nat) : Int) ^ (tl z n - 1)) = t) :
    SiteOk Φ Tryz.prog ⟨21, [.fact p, .fact q], [⟨qS, [(0, 0, x), (0, 2, x1), (2, 2, x2)]⟩], false⟩ :=
  viaG (pat hn hk hkt hkn hB) ⟨hp, hr, trivial⟩ ⟨⟨rfl, ⟨rfl, rfl, fun _ _ h => hx ▸ ht ▸ h⟩, ⟨rfl, rfl, fun _ _ h => hx1 ▸ ht ▸ h⟩, ⟨rfl, rfl, fun _ _ h => hx2 ▸ ht ▸ h⟩, trivial⟩, trivial⟩
theorem sKRat5 (k : Nat) {ki a u : Int} {b b' : Bool} {xs ys : List Nat} (hki : (k : Int) = ki) (hp : ∀ w v, Φ p w v → RawQ w v b xs b' ys) (hx : Φ x = fun w v => QV w v a u k) (hz : sg b (Proofs.YtncaiomdcpppeaaGreat.val 4294967296 (xs.take k)) = a) (hu : sg b' (Proofs.YtncaiomdcpppeaaGreat.val 4294967296 (ys.take k)) = u) : SiteOk Φ Tryz.prog ⟨14, [.fact p, .lit (.ci .i64 ki)], [⟨qS, [(0, 0, x)]⟩], false⟩ := fun X w vs hX ha => by
  subst hki
  match vs, ha with
  | [v, c], ha =>
    refine ((sKRatJ (Φ := ph [fun w v => RawQ w v b xs b' ys, fun _ v => v = .int .i64 (k : Int), fun w v => RawQ w v b (xs.take k) b' (ys.take k), fun w v => QV w v a u k]) (p := 0) (q := 1) (x := 2) (x' := 3) k (fun _ _ h => h) (fun _ _ h => h) rfl rfl hz hu) X w [v, c] hX ⟨fun w1 hw => hp _ _ (ha.1 w1 hw), fun w1 _ => ha.2.1, trivial⟩).mono fun e w' ⟨hg, us, he, ho⟩ => ⟨hg, us, he, ?_⟩
    match us, ho with
    | [t], ho => exact one_out ho.1.1 hx fun w1 hw => ho.1.2 (0, 0, 3) (List.mem_cons_of_mem _ (List.mem_cons_self ..)) w1 hw
end
end Go.Proofs.YtncaiomdcpppeaaGreat.Sym
