/- poly.At; the reference's At, Whole, Sign, Ends. -/
import Derived.Test.YtncaiomdcpppeaaGreatPolZ
import Derived.Test.YtncaiomdcpppeaaGreatPolQ
namespace Go.Proofs.YtncaiomdcpppeaaGreat.Sym
open Go.RowKit
theorem den_pow_ne (q : Rat) (j : Nat) : ((q.den : Nat) : Int) ^ j ≠ 0 := Int.pow_ne_zero (by have := q.den_nz; omega)
theorem DecI.re {w : World} {v : Value} {z : Int} {k l : Nat} (h : DecI w v z k) (hb : Bd z.natAbs l) : DecI w v z l := by
  obtain ⟨p, c, h1, h2⟩ := h
  exact ⟨p, c, h1, h2.1, hb⟩
theorem DecQ.re {w : World} {v : Value} {q : Rat} {k l : Nat} (h : DecQ w v q k) (h1 : Bd q.num.natAbs l) (h2 : Bd q.den l) : DecQ w v q l := by
  obtain ⟨p, n, c, b, p', n', c', b', h3, h4, h5⟩ := h
  exact ⟨p, n, c, b, p', n', c', b', h3, DecI.re h4 h1, DecI.re h5 (by rw [Int.natAbs_natCast]; exact h2)⟩
theorem DecI.zero (w : World) (k : Nat) : DecI w (.agg #[.slice none 0 0, .bool false]) 0 k := by
  refine ⟨none, 0, by simp [dig, digF], ?_, by show (0 : Int).natAbs < _; exact Nat.pow_pos (by omega)⟩
  simpa [dig, digF] using Sl.nil w .i64
/-- Horner's sums of the reference. -/
def qH (z : Nat → Int) (n : Nat) (r : Rat) : Nat → Rat
  | 0 => 0
  | j + 1 => qH z n r j * r + ((z (n - 1 - j) : Int) : Rat)
def gN (z : Nat → Int) (n : Nat) (u d : Int) : Nat → Int
  | 0 => 0
  | j + 1 => gN z n u d j * u + z (n - 1 - j) * d ^ j
theorem qOf_00 : qOf 0 1 = 0 := by decide +kernel
theorem one_kp {w w1 : World} {v : Value} (g : Kp w w1) (h : Arr 1 (fun _ _ v => v = .agg #[.int .i64 1]) 1 w v) : Arr 1 (fun _ _ v => v = .agg #[.int .i64 1]) 1 w1 v := by
  obtain ⟨p, c, rfl, h1⟩ := h
  refine ⟨p, c, rfl, fun i hi => ?_⟩
  obtain ⟨b, off, rfl, l, h2, h3, h4⟩ := h1 i hi
  obtain rfl : l = [.int .i64 1] := by simpa using h4
  refine ⟨b, off, rfl, [.int .i64 1], h2, fun j u hj => ?_, h4⟩
  have := h3 j u hj
  cases j with
  | succ j => simp at hj
  | zero =>
    simp only [List.getElem?_cons_zero, Option.some.injEq] at hj
    subst hj
    exact g.2 _ _ _ this
theorem DecI.n1 {z : Int} {k : Nat} {w : World} {l : List Value} (h : DecI w (.agg l.toArray) (((z : Int) : Rat).den : Int) k) : ∃ s, Value.agg ((l.drop 0).take 1).toArray = .agg #[s] ∧ Arr 1 (fun _ _ v => v = .agg #[.int .i64 1]) 1 w s := by
  have h' : DecI w (.agg l.toArray) 1 k := h
  obtain ⟨p, c, e, -⟩ := id h'
  have e1 : (dig 10000 (1 : Int).natAbs).length = 1 := by decide
  rw [e1] at e
  simp only [Value.agg.injEq] at e
  have hl : l = [.slice p 1 c, .bool (decide ((1 : Int) < 0))] := by have := congrArg Array.toList e; simpa using this
  subst hl
  obtain ⟨blk, off, rfl, hc⟩ := DecI.one h'
  refine ⟨.slice (some ⟨blk, off, none⟩) 1 c, rfl, _, _, rfl, fun i hi => ⟨blk, off, rfl, [.int .i64 1], rfl, fun j u hj => ?_, rfl⟩⟩
  cases j with
  | succ j => simp at hj
  | zero =>
    simp only [List.getElem?_cons_zero, Option.some.injEq] at hj
    subst hj
    obtain rfl : i = 0 := by omega
    have hc' : w.cell? ⟨blk, off, none⟩ = some (.int .i64 1) := hc
    simpa using hc'
section
variable {P : Program} {Φ : Nat → World → Value → Prop} {p q x : Nat}
/-- A slice is read. -/
theorem qLoadS {T : TypeId} {sz n : Nat} {F : Nat → World → Value → Prop} (hT : aggOf P T = some false) (hp : ∀ w v, Φ p w v → Ptr 1 (fun w v => ∃ s, v = .agg #[s] ∧ Arr sz F n w s) w v) (hm' : ∀ w w1 v, Kp w w1 → Arr sz F n w v → Arr sz F n w1 v) (hx : Φ x = fun w v => Arr sz F n w v) : SiteOk Φ P ⟨0, [.fact p], [⟨.one .s, [(0, 0, x)]⟩], .quiet (mLoad T)⟩ := fun X w ac o xs _ hm ha => by
  unfold mLoad at hm
  split at hm
  case h_2 => cases hm
  rename_i t y ho
  split at hm
  case isFalse => cases hm
  rename_i ht
  subst ht
  simp only [Option.some.injEq] at hm
  subst hm
  obtain ⟨b, off, hv, l, h1, h2, s, h3, h4⟩ := hp _ _ (ha.1 w (Off.refl _ _))
  obtain rfl : l = [s] := by simpa using h3
  have hc := h2 0 _ rfl
  rw [Nat.add_zero] at hc
  obtain ⟨p', c', rfl, h5⟩ := id h4
  refine ⟨_, w, ?_, grown_refl w none, one_out ⟨⟨_, _, _, rfl⟩, fun _ h => by cases h⟩ hx fun w1 hw => hm' _ _ _ hw.1 h4⟩
  unfold execOp
  simp [ho, hv, Instr.loadAt, Instr.sureAddr, loadVar, run_isAgg hT, hc]
end
theorem tmod_even {m : Nat} (h : m % 2 = 0) : Int.tmod (m : Int) 2 = 0 := by
  rw [Int.tmod_eq_emod_of_nonneg (by omega)]; omega
theorem tmod_even' {m : Nat} (h : Int.tmod (m : Int) 2 = 0) : m % 2 = 0 := by
  rw [Int.tmod_eq_emod_of_nonneg (by omega)] at h; omega
def b_pat (z : Nat → Int) (n k : Nat) (q : Rat) (kt kn : Nat) : List (World → Value → Prop) := [fun w v => Rw 2 (fun ι w v => IntV w v (z ι) k) n w v, fun w v => RatV w v q kt, fun w v => NorV w v (hN z (tl z n) q.num q.den ((tl z n) - 1)) kn, fun w v => NorV w v (((q.den : Nat) : Int) ^ ((tl z n) - 1)) kn, fun w v => NorQ w v (Rat.divInt (hN z (tl z n) q.num q.den ((tl z n) - 1)) (((q.den : Nat) : Int) ^ ((tl z n) - 1))) (kn + kn), fun w v => NorV w v ((Rat.divInt (hN z (tl z n) q.num q.den ((tl z n) - 1)) (((q.den : Nat) : Int) ^ ((tl z n) - 1))).num) (kn + kn), fun w v => NorV w v ((Rat.divInt (hN z (tl z n) q.num q.den ((tl z n) - 1)) (((q.den : Nat) : Int) ^ ((tl z n) - 1))).den : Int) (kn + kn)]
def ss_pat : List Step := [.base ⟨79, [.fact 0, .fact 1], [⟨.agg [.b, .s], [(0, 0, 2)]⟩, ⟨.agg [.b, .s], [(0, 0, 3)]⟩], true⟩,
      .base ⟨78, [.fact 2, .fact 3], [⟨.agg [.b, .s, .b, .s], [(0, 0, 4), (0, 2, 5), (2, 2, 6)]⟩, ⟨.one (.lit (.ci .i64 0)), []⟩], true⟩]
def ins_pat : List Out := [⟨.one (.s), [(0, 0, 0)]⟩, ⟨.agg [.b, .s, .b, .s], [(0, 0, 1)]⟩]
set_option maxRecDepth 100000 in
theorem pat {z : Nat → Int} {n k : Nat} {q : Rat} {kt kn : Nat} (hn : n ≤ 1000000) (hk : k ≤ 40000) (hkt : kt ≤ 30000) (hkn : kn ≤ 50000) (hB : ∀ j, j ≤ (tl z n) - 1 → Bd (hN z (tl z n) q.num q.den j).natAbs kn ∧ Bd (((q.den : Nat) : Int) ^ j).natAbs kn) : SiteOk (ph (b_pat z n k q kt kn)) Tryz.prog ⟨21, [.fact 0, .fact 1], [⟨.agg [.b, .s, .b, .s], [(0, 0, 4), (0, 2, 5), (2, 2, 6)]⟩], false⟩ := by
  skip
  exact fn_okL ins_pat [⟨.agg [.b, .s, .b, .s], [(0, 0, 4), (0, 2, 5), (2, 2, 6)]⟩] ss_pat Tryz.func21 (by kernel_rfl)
    (lbase (sValue5 (z := z) (n := n) (fun _ _ h => Rw.to (sz := 2) (n := n) (F := (fun ι w v => IntV w v (z ι) k)) (h) (fun i w v _ h => (fun _ _ _ h => h) i w v h)) qQ rfl rfl (by omega) (by omega) (by omega) (by omega) hB)
      (lbase (sRMake nI nI rfl rfl rfl (by omega) (den_pow_ne q _) rfl)
      lnil))
    (ins_ok [.fact 0 (.one (.s)), .fact 1 (.agg [.b, .s, .b, .s])] ⟨fun _ _ h => Rw.is (sz := 2) (F := (fun ι w v => IntV w v (z ι) k)) (n := n) h, fun _ _ h => RatV.is h, trivial⟩) (fun _ _ _ h => h)

def b_rzero  : List (World → Value → Prop) := [fun w v => DecQ w v (qOf 0 1) 6, fun w v => DecI w v ((qOf 0 1).num) 6, fun w v => DecI w v ((qOf 0 1).den : Int) 6]
def ss_rzero : List Step := [.base ⟨115, [.lit (.ci .i64 0), .lit (.ci .i64 1)], [⟨.agg [.s, .b, .s, .b], [(0, 0, 0), (0, 2, 1), (2, 2, 2)]⟩], false⟩]
def ins_rzero : List Out := []
set_option maxRecDepth 100000 in
theorem rzero   : SiteOk (ph (b_rzero )) Tryz.prog ⟨75, [], [⟨.agg [.s, .b, .s, .b], [(0, 0, 0), (0, 2, 1), (2, 2, 2)]⟩], false⟩ := by
  skip
  exact fn_okL ins_rzero [⟨.agg [.s, .b, .s, .b], [(0, 0, 0), (0, 2, 1), (2, 2, 2)]⟩] ss_rzero Tryz.func75 (by kernel_rfl)
    (lbase (tOfR (z := 0) (y := 1) rfl rfl rfl (by decide) (by decide) (by decide) (by decide) rfl)
      lnil)
    (ins_ok [] trivial) (fun _ _ _ h => h)

section
variable {Φ : Nat → World → Value → Prop} {p q x x1 x2 n k kr kk i : Nat} {z : Nat → Int} {r : Rat}
theorem tZero5 (hx : Φ x = fun w v => DecQ w v (qOf 0 1) 6) (hx1 : Φ x1 = fun w v => DecI w v (qOf 0 1).num 6) (hx2 : Φ x2 = fun w v => DecI w v ((qOf 0 1).den : Int) 6) : SiteOk Φ Tryz.prog ⟨75, [], [⟨sS, [(0, 0, x), (0, 2, x1), (2, 2, x2)]⟩], false⟩ :=
  viaG rzero trivial ⟨⟨rfl, ⟨rfl, rfl, fun _ _ h => hx ▸ h⟩, ⟨rfl, rfl, fun _ _ h => hx1 ▸ h⟩, ⟨rfl, rfl, fun _ _ h => hx2 ▸ h⟩, trivial⟩, trivial⟩
theorem tSignJ {z t : Int} (hp : ∀ w v, Φ p w v → DecI w v z i) (hx : Φ x = fun _ v => v = .int .i64 t) (ht : cmpI z 0 = t := by rfl) : SiteOk Φ Tryz.prog ⟨74, [.fact p], [⟨.one .i, [(0, 0, x)]⟩], false⟩ :=
  site1 fun _ _ _ h0 => (Sign_r (hp _ _ (get h0))).mono fun _ _ h => pstJ hx (ht ▸ h)
end
def b_rat_ (z : Nat → Int) (n k : Nat) (r : Rat) (kr kk : Nat) : List (World → Value → Prop) := [fun w v => Rw 4 (fun ι w v => DecQ w v (((z ι : Int) : Rat)) k) n w v, fun w v => DecQ w v r kr, fun w v => DecI w v r.num kr, fun w v => DecI w v ((r.den : Nat) : Int) kr, fun w v => DecQ w v (qOf 0 1) 6, fun w v => DecI w v ((qOf 0 1).num) 6, fun w v => DecI w v ((qOf 0 1).den : Int) 6, fun _ v => v = .int .i64 ((n : Nat) : Int), fun _ v => v = .int .i64 (((n : Nat) : Int) - 1), fun w v => DecQ w v (qH z n r n) kk]
def l_rat__1 (z : Nat → Int) (n k : Nat) (r : Rat) (kr kk : Nat) (j : Nat) : List (World → Value → Prop) := [fun _ v => v = .int .i64 (((n : Nat) : Int) - 1 - ((j : Nat) : Int)), fun w v => DecQ w v (qH z n r j) kk, fun w v => DecQ w v ((qH z n r j) * r) (2 * (kk + kr) + 2), fun w v => DecI w v (((qH z n r j) * r).num) (2 * (kk + kr) + 2), fun w v => DecI w v (((qH z n r j) * r).den : Int) (2 * (kk + kr) + 2), fun w v => Ptr 4 (fun w v => DecQ w v (((z (n - 1 - j) : Int) : Rat)) k) w v, fun w v => DecQ w v (((z (n - 1 - j) : Int) : Rat)) k, fun w v => DecQ w v (((qH z n r j) * r) + (((z (n - 1 - j) : Int) : Rat))) (3 * ((2 * (kk + kr) + 2) + k) + 3), fun w v => DecI w v ((((qH z n r j) * r) + (((z (n - 1 - j) : Int) : Rat))).num) (3 * ((2 * (kk + kr) + 2) + k) + 3), fun w v => DecI w v ((((qH z n r j) * r) + (((z (n - 1 - j) : Int) : Rat))).den : Int) (3 * ((2 * (kk + kr) + 2) + k) + 3), fun _ v => v = .int .i64 ((((n : Nat) : Int) - 1 - ((j : Nat) : Int)) - 1)]
def d_rat__1 : LoopD := ⟨[0, 1, 3, 4, 5, 7, 8, 9, 10], [(.slot 6, .i), (.cell 4 0, .s), (.cell 4 1, .b), (.cell 4 2, .s), (.cell 4 3, .b)], [(.one 0, 10), (.agg [1, 2, 3, 4], 11)], [.from 8, .from 4], 10, [(11, 9)]⟩
def r_rat__1_0 : List Step := [.base ⟨0, [.fact 10, .lit (.ci .i64 0)], [⟨.one (.lit (.cb true)), []⟩], .quiet (mBin .geq)⟩,
      .base ⟨77, [.fact 11, .fact 1], [⟨.agg [.s, .b, .s, .b], [(0, 0, 12), (0, 2, 13), (2, 2, 14)]⟩], false⟩,
      .base ⟨0, [.fact 0, .fact 10], [⟨.one (.p), [(0, 0, 15)]⟩], .quiet (mIdx 30)⟩,
      .base ⟨0, [.fact 15], [⟨.agg [.s, .b, .s, .b], [(0, 0, 16)]⟩], .quiet (mLoad 39)⟩,
      .base ⟨76, [.fact 12, .fact 16], [⟨.agg [.s, .b, .s, .b], [(0, 0, 17), (0, 2, 18), (2, 2, 19)]⟩], false⟩,
      .base ⟨0, [.fact 10, .lit (.ci .i64 1)], [⟨.one (.i), [(0, 0, 20)]⟩], .quiet (mBin .sub)⟩]
def o_rat__1 : List Step := [.base ⟨0, [.fact 10, .lit (.ci .i64 0)], [⟨.one (.lit (.cb false)), []⟩], .quiet (mBin .geq)⟩]
def ss_rat_ : List Step := [.base ⟨75, [], [⟨.agg [.s, .b, .s, .b], [(0, 0, 4), (0, 2, 5), (2, 2, 6)]⟩], false⟩,
      .base ⟨0, [.fact 0], [⟨.one (.i), [(0, 0, 7)]⟩], .quiet (mLen 30)⟩,
      .base ⟨0, [.fact 7, .lit (.ci .i64 1)], [⟨.one (.i), [(0, 0, 8)]⟩], .quiet (mBin .sub)⟩,
      .loop d_rat__1 [(r_rat__1_0, [.from 20, .from 17])] o_rat__1]
def ins_rat_ : List Out := [⟨.one (.s), [(0, 0, 0)]⟩, ⟨.agg [.s, .b, .s, .b], [(0, 0, 1), (0, 2, 2), (2, 2, 3)]⟩]
set_option maxRecDepth 100000 in
theorem rat_ {z : Nat → Int} {n k : Nat} {r : Rat} {kr kk : Nat} (hn : n ≤ 1000000) (hk : k ≤ 10000) (hkr : kr ≤ 1000) (hkk : kk ≤ 1000) (hB : ∀ j, j ≤ n → Bd (qH z n r j).num.natAbs kk ∧ Bd (qH z n r j).den kk) : SiteOk (ph (b_rat_ z n k r kr kk)) Tryz.prog ⟨20, [.fact 0, .fact 1], [⟨.agg [.s, .b, .s, .b], [(0, 0, 9)]⟩], false⟩ := by
  skip
  exact fn_okL ins_rat_ [⟨.agg [.s, .b, .s, .b], [(0, 0, 9)]⟩] ss_rat_ Tryz.func20 (by kernel_rfl)
    (lbase (tZero5 rfl rfl rfl)
      (lbase (qLen (sz := 4) (n := n) (F := (fun ι w v => DecQ w v (((z ι : Int) : Rat)) k)) Tryz.underlying30 (fun _ _ h => Rw.arr h) rfl)
      (lbase (qSubK (fun _ _ h => h) (rfl) rfl (by omega) (by omega))
      (lloop (counted n (fun j => ph (b_rat_ z n k r kr kk ++ l_rat__1 z n k r kr kk j)) (fun _ => 0) (fun j p hp => ph_app' (show p < (b_rat_ z n k r kr kk).length from hp)) ⟨fun _ _ h => h.trans (congrArg (Value.int .i64) (by omega)), fun _ _ h => DecQ.re (h.eq qOf_00) (hB 0 (by omega)).1 (hB 0 (by omega)).2, trivial⟩ (fun j hj => by
      skip
      exact ⟨(r_rat__1_0, [.from 20, .from 17]), rfl, ⟨fun _ _ h => h.trans (congrArg (Value.int .i64) (by omega)), fun _ _ h => DecQ.re h (hB (j + 1) (by omega)).1 (hB (j + 1) (by omega)).2, trivial⟩, (lbase (qTestC (op := .geq) (fun _ _ h => h) (ts_run (decide_eq_true (by omega)) (by simp)))
      (lbase (tMulR tS tS rfl rfl rfl (by omega) rfl)
      (lbase (qIdx (i := (n - 1 - j)) (sz := 4) (n := n) (F := (fun ι w v => DecQ w v (((z ι : Int) : Rat)) k)) Tryz.underlying30 (by kernel_rfl) (fun _ _ h => Rw.arr h) (fun _ _ h => h.trans (congrArg (Value.int .i64) (by omega))) (by omega) rfl)
      (lbase (qLoad (sz := 4) (F := fun w v => DecQ w v (((z (n - 1 - j) : Int) : Rat)) k) (by kernel_rfl) (by kernel_rfl) (fun _ _ h => h) (fun _ _ _ g h => DecQ.kp h g) (fun _ _ h => DecQ.is h) rfl)
      (lbase (tAddR tS tS rfl rfl rfl (by omega) rfl)
      (lbase (qSubK (fun _ _ h => h) (rfl) rfl (by omega) (by omega))
      lnil))))))⟩)
      (lbase (qTestC (op := .geq) (fun _ _ h => h) (ts_run (decide_eq_false (by omega)) (by simp)))
      lnil)
      (fun q hq w v h => by
        simp only [d_rat__1, List.mem_cons, List.not_mem_nil, or_false] at hq
        rcases hq with rfl
        · exact (fun h => h) h)) lnil))))
    (ins_ok [.fact 0 (.one (.s)), .sub 1 (.agg [.s, .b, .s, .b]) [(0, 2, 2), (2, 2, 3)]] ⟨fun _ _ h => Rw.is (sz := 4) (F := (fun ι w v => DecQ w v (((z ι : Int) : Rat)) k)) (n := n) h, ⟨fun _ _ h => DecQ.is h, fun _ _ h => DecQ.fst h, fun _ _ h => DecQ.snd h, trivial⟩, trivial⟩) (fun _ _ _ h => h)

def b_rwhole (z : Nat → Int) (n k : Nat) : List (World → Value → Prop) := [fun w v => Rw 4 (fun ι w v => DecQ w v (((z ι : Int) : Rat)) k) n w v, fun _ v => v = .int .i64 ((n : Nat) : Int)]
def l_rwhole_1 (z : Nat → Int) (k : Nat) (j : Nat) : List (World → Value → Prop) := [fun _ v => v = .int .i64 ((j : Nat) : Int), fun w v => Ptr 4 (fun w v => DecQ w v (((z j : Int) : Rat)) k) w v, fun w v => Ptr 2 (fun w v => DecI w v ((((z j : Int) : Rat)).den : Int) k) w v, fun w v => Ptr 1 (fun w v => ∃ s, v = .agg #[s] ∧ Arr 1 (fun _ _ v => v = .agg #[.int .i64 1]) 1 w s) w v, fun w v => Arr 1 (fun _ _ v => v = .agg #[.int .i64 1]) 1 w v, fun _ v => v = .int .i64 ((1 : Nat) : Int), fun w v => Ptr 4 (fun w v => DecQ w v (((z j : Int) : Rat)) k) w v, fun w v => Ptr 2 (fun w v => DecI w v ((((z j : Int) : Rat)).den : Int) k) w v, fun w v => Ptr 1 (fun w v => ∃ s, v = .agg #[s] ∧ Arr 1 (fun _ _ v => v = .agg #[.int .i64 1]) 1 w s) w v, fun w v => Arr 1 (fun _ _ v => v = .agg #[.int .i64 1]) 1 w v, fun w v => Ptr 1 (fun _ v => v = .agg #[.int .i64 1]) w v, fun _ v => v = .int .i64 (1 : Int), fun _ v => v = .int .i64 (((j + 1) : Nat) : Int)]
def d_rwhole_1 : LoopD := ⟨[0, 2, 4, 5], [(.slot 6, .i)], [(.one 0, 2)], [.closed (.one (.ci .i64 0))], 2, []⟩
def r_rwhole_1_0 : List Step := [.base ⟨0, [.fact 2, .fact 1], [⟨.one (.lit (.cb true)), []⟩], .quiet (mBin .lss)⟩,
      .base ⟨0, [.fact 0, .fact 2], [⟨.one (.p), [(0, 0, 3)]⟩], .quiet (mIdx 30)⟩,
      .base ⟨0, [.fact 3], [⟨.one (.p), [(0, 0, 4)]⟩], .quiet (mFld 39 1)⟩,
      .base ⟨0, [.fact 4], [⟨.one (.p), [(0, 0, 5)]⟩], .quiet (mFld 37 0)⟩,
      .base ⟨0, [.fact 5], [⟨.one (.s), [(0, 0, 6)]⟩], .quiet (mLoad 35)⟩,
      .base ⟨0, [.fact 6], [⟨.one (.i), [(0, 0, 7)]⟩], .quiet (mLen 35)⟩,
      .base ⟨0, [.fact 7, .lit (.ci .i64 1)], [⟨.one (.lit (.cb false)), []⟩], .quiet (mBin .neq)⟩,
      .base ⟨0, [.fact 0, .fact 2], [⟨.one (.p), [(0, 0, 8)]⟩], .quiet (mIdx 30)⟩,
      .base ⟨0, [.fact 8], [⟨.one (.p), [(0, 0, 9)]⟩], .quiet (mFld 39 1)⟩,
      .base ⟨0, [.fact 9], [⟨.one (.p), [(0, 0, 10)]⟩], .quiet (mFld 37 0)⟩,
      .base ⟨0, [.fact 10], [⟨.one (.s), [(0, 0, 11)]⟩], .quiet (mLoad 35)⟩,
      .base ⟨0, [.fact 11, .lit (.ci .i64 0)], [⟨.one (.p), [(0, 0, 12)]⟩], .quiet (mIdx 35)⟩,
      .base ⟨0, [.fact 12], [⟨.one (.i), [(0, 0, 13)]⟩], .quiet (mLoad 3)⟩,
      .base ⟨0, [.fact 13, .lit (.ci .i64 1)], [⟨.one (.lit (.cb false)), []⟩], .quiet (mBin .neq)⟩,
      .base ⟨0, [.fact 2, .lit (.ci .i64 1)], [⟨.one (.i), [(0, 0, 14)]⟩], .quiet (mBin .add)⟩]
def o_rwhole_1 : List Step := [.base ⟨0, [.fact 2, .fact 1], [⟨.one (.lit (.cb false)), []⟩], .quiet (mBin .lss)⟩]
def ss_rwhole : List Step := [.base ⟨0, [.fact 0], [⟨.one (.i), [(0, 0, 1)]⟩], .quiet (mLen 30)⟩,
      .loop d_rwhole_1 [(r_rwhole_1_0, [.from 14])] o_rwhole_1]
def ins_rwhole : List Out := [⟨.one (.s), [(0, 0, 0)]⟩]
set_option maxRecDepth 100000 in
theorem rwhole {z : Nat → Int} {n k : Nat} (hn : n ≤ 1000000) : SiteOk (ph (b_rwhole z n k)) Tryz.prog ⟨80, [.fact 0], [⟨.one (.lit (.cb true)), []⟩], false⟩ := by
  skip
  exact fn_okL ins_rwhole [⟨.one (.lit (.cb true)), []⟩] ss_rwhole Tryz.func80 (by kernel_rfl)
    (lbase (qLen (sz := 4) (n := n) (F := (fun ι w v => DecQ w v (((z ι : Int) : Rat)) k)) Tryz.underlying30 (fun _ _ h => Rw.arr h) rfl)
      (lloop (counted n (fun j => ph (b_rwhole z n k ++ l_rwhole_1 z k j)) (fun _ => 0) (fun j p hp => ph_app' (show p < (b_rwhole z n k).length from hp)) ⟨fun _ => rfl, trivial⟩ (fun j hj => by
      skip
      exact ⟨(r_rwhole_1_0, [.from 14]), rfl, ⟨fun _ _ h => h, trivial⟩, (lbase (qTest (op := .lss) (fun _ _ h => h) (fun _ _ h => h) (ts_run (decide_eq_true (by omega)) (by simp)))
      (lbase (qIdx (i := j) (sz := 4) (n := n) (F := (fun ι w v => DecQ w v (((z ι : Int) : Rat)) k)) Tryz.underlying30 (by kernel_rfl) (fun _ _ h => Rw.arr h) (fun _ _ h => h) (by omega) rfl)
      (lbase (qFld (off := 2) (len := 2) (sz := 4) (F := fun w v => DecQ w v (((z j : Int) : Rat)) k) (G := fun w v => DecI w v ((((z j : Int) : Rat)).den : Int) k) (by kernel_rfl) (fun _ _ h => h) (by omega) (fun _ _ h => DecQ.snd' h) rfl)
      (lbase (qFld (off := 0) (len := 1) (sz := 2) (F := fun w v => DecI w v ((((z j : Int) : Rat)).den : Int) k) (G := fun w v => ∃ s, v = .agg #[s] ∧ Arr 1 (fun _ _ v => v = .agg #[.int .i64 1]) 1 w s) (by kernel_rfl) (fun _ _ h => h) (by omega) (fun _ _ h => DecI.n1 h) rfl)
      (lbase (qLoadS (by kernel_rfl) (fun _ _ h => h) (fun _ _ _ g h => one_kp g h) rfl)
      (lbase (qLen (sz := 1) (n := 1) (F := (fun _ _ v => v = .agg #[.int .i64 1])) Tryz.underlying35 (fun _ _ h => h) rfl)
      (lbase (qTestC (op := .neq) (fun _ _ h => h) (ts_run (rfl) (by simp)))
      (lbase (qIdx (i := j) (sz := 4) (n := n) (F := (fun ι w v => DecQ w v (((z ι : Int) : Rat)) k)) Tryz.underlying30 (by kernel_rfl) (fun _ _ h => Rw.arr h) (fun _ _ h => h) (by omega) rfl)
      (lbase (qFld (off := 2) (len := 2) (sz := 4) (F := fun w v => DecQ w v (((z j : Int) : Rat)) k) (G := fun w v => DecI w v ((((z j : Int) : Rat)).den : Int) k) (by kernel_rfl) (fun _ _ h => h) (by omega) (fun _ _ h => DecQ.snd' h) rfl)
      (lbase (qFld (off := 0) (len := 1) (sz := 2) (F := fun w v => DecI w v ((((z j : Int) : Rat)).den : Int) k) (G := fun w v => ∃ s, v = .agg #[s] ∧ Arr 1 (fun _ _ v => v = .agg #[.int .i64 1]) 1 w s) (by kernel_rfl) (fun _ _ h => h) (by omega) (fun _ _ h => DecI.n1 h) rfl)
      (lbase (qLoadS (by kernel_rfl) (fun _ _ h => h) (fun _ _ _ g h => one_kp g h) rfl)
      (lbase (qIdxC 0 (sz := 1) (n := 1) (F := (fun _ _ v => v = .agg #[.int .i64 1])) Tryz.underlying35 (by kernel_rfl) (fun _ _ h => h) rfl (by omega) rfl)
      (lbase (qLoad1 (by kernel_rfl) (fun _ _ h => h) rfl)
      (lbase (qTestC (op := .neq) (fun _ _ h => h) (ts_run (rfl) (by simp)))
      (lbase (qAddK (fun _ _ h => h) (by omega) rfl (by omega) (by omega))
      lnil)))))))))))))))⟩)
      (lbase (qTest (op := .lss) (fun _ _ h => h) (fun _ _ h => h) (ts_run (decide_eq_false (by omega)) (by simp)))
      lnil)
      (fun q hq => by cases hq)) lnil))
    (ins_ok [.fact 0 (.one (.s))] ⟨fun _ _ h => Rw.is (sz := 4) (F := (fun ι w v => DecQ w v (((z ι : Int) : Rat)) k)) (n := n) h, trivial⟩) (fun _ _ _ h => h)

section
variable {Φ : Nat → World → Value → Prop} {p q x n k kr kk : Nat} {z : Nat → Int} {r : Rat}
theorem sWhole (hp : ∀ w v, Φ p w v → Rw 4 (fun i w v => DecQ w v ((z i : Int) : Rat) k) n w v) (hn : n ≤ 1000000) : SiteOk Φ Tryz.prog ⟨80, [.fact p], [⟨.one (.lit (.cb true)), []⟩], false⟩ :=
  viaG (rwhole hn) ⟨hp, trivial⟩ ⟨⟨rfl, trivial⟩, trivial⟩
end
def b_rsign (z : Nat → Int) (n k : Nat) (r : Rat) (kr kk : Nat) : List (World → Value → Prop) := [fun w v => Rw 4 (fun ι w v => DecQ w v (((z ι : Int) : Rat)) k) n w v, fun w v => DecQ w v r kr, fun w v => DecI w v r.num kr, fun w v => DecI w v ((r.den : Nat) : Int) kr, fun w v => DecI w v (1 : Int) 2, fun _ v => v = .int .i64 ((n : Nat) : Int), fun _ v => v = .int .i64 (((n : Nat) : Int) - 1), fun w v => DecI w v (gN z n r.num ((r.den : Nat) : Int) n) kk, fun _ v => v = .int .i64 (cmpI (gN z n r.num ((r.den : Nat) : Int) n) 0)]
def l_rsign_1 (z : Nat → Int) (n k : Nat) (r : Rat) (kr kk : Nat) (j : Nat) : List (World → Value → Prop) := [fun _ v => v = .int .i64 (((n : Nat) : Int) - 1 - ((j : Nat) : Int)), fun w v => DecI w v (gN z n r.num ((r.den : Nat) : Int) j) kk, fun w v => DecI w v (((r.den : Nat) : Int) ^ j) kk, fun w v => DecI w v ((gN z n r.num ((r.den : Nat) : Int) j) * r.num) (kk + kr), fun w v => Ptr 4 (fun w v => DecQ w v (((z (n - 1 - j) : Int) : Rat)) k) w v, fun w v => Ptr 2 (fun w v => DecI w v ((((z (n - 1 - j) : Int) : Rat)).num) k) w v, fun w v => DecI w v ((((z (n - 1 - j) : Int) : Rat)).num) k, fun w v => DecI w v (((((z (n - 1 - j) : Int) : Rat)).num) * (((r.den : Nat) : Int) ^ j)) (k + kk), fun w v => DecI w v (((gN z n r.num ((r.den : Nat) : Int) j) * r.num) + (((((z (n - 1 - j) : Int) : Rat)).num) * (((r.den : Nat) : Int) ^ j))) ((kk + kr) + (k + kk) + 1), fun w v => DecI w v ((((r.den : Nat) : Int) ^ j) * ((r.den : Nat) : Int)) (kk + kr), fun _ v => v = .int .i64 ((((n : Nat) : Int) - 1 - ((j : Nat) : Int)) - 1)]
def d_rsign_1 : LoopD := ⟨[0, 1, 3, 4, 5, 6, 8, 9, 10, 16, 17, 18, 19], [(.slot 7, .i), (.cell 6 0, .s), (.cell 6 1, .b), (.cell 8 0, .s), (.cell 8 1, .b)], [(.one 0, 9), (.agg [1, 2], 10), (.agg [3, 4], 11)], [.from 6, .closed (.agg [.nl, .cb false]), .from 4], 9, [(10, 7)]⟩
def r_rsign_1_0 : List Step := [.base ⟨0, [.fact 9, .lit (.ci .i64 0)], [⟨.one (.lit (.cb true)), []⟩], .quiet (mBin .geq)⟩,
      .base ⟨82, [.fact 10, .fact 2], [⟨.agg [.s, .b], [(0, 0, 12)]⟩], false⟩,
      .base ⟨0, [.fact 0, .fact 9], [⟨.one (.p), [(0, 0, 13)]⟩], .quiet (mIdx 30)⟩,
      .base ⟨0, [.fact 13], [⟨.one (.p), [(0, 0, 14)]⟩], .quiet (mFld 39 0)⟩,
      .base ⟨0, [.fact 14], [⟨.agg [.s, .b], [(0, 0, 15)]⟩], .quiet (mLoad 37)⟩,
      .base ⟨82, [.fact 15, .fact 11], [⟨.agg [.s, .b], [(0, 0, 16)]⟩], false⟩,
      .base ⟨81, [.fact 12, .fact 16], [⟨.agg [.s, .b], [(0, 0, 17)]⟩], false⟩,
      .base ⟨82, [.fact 11, .fact 3], [⟨.agg [.s, .b], [(0, 0, 18)]⟩], false⟩,
      .base ⟨0, [.fact 9, .lit (.ci .i64 1)], [⟨.one (.i), [(0, 0, 19)]⟩], .quiet (mBin .sub)⟩]
def o_rsign_1 : List Step := [.base ⟨0, [.fact 9, .lit (.ci .i64 0)], [⟨.one (.lit (.cb false)), []⟩], .quiet (mBin .geq)⟩]
def ss_rsign : List Step := [.base ⟨80, [.fact 0], [⟨.one (.lit (.cb true)), []⟩], false⟩,
      .base ⟨16, [.lit (.ci .i64 1)], [⟨.agg [.s, .b], [(0, 0, 4)]⟩], false⟩,
      .base ⟨0, [.fact 0], [⟨.one (.i), [(0, 0, 5)]⟩], .quiet (mLen 30)⟩,
      .base ⟨0, [.fact 5, .lit (.ci .i64 1)], [⟨.one (.i), [(0, 0, 6)]⟩], .quiet (mBin .sub)⟩,
      .loop d_rsign_1 [(r_rsign_1_0, [.from 19, .from 17, .from 18])] o_rsign_1,
      .base ⟨74, [.fact 7], [⟨.one (.i), [(0, 0, 8)]⟩], false⟩]
def ins_rsign : List Out := [⟨.one (.s), [(0, 0, 0)]⟩, ⟨.agg [.s, .b, .s, .b], [(0, 0, 1), (0, 2, 2), (2, 2, 3)]⟩]
set_option maxRecDepth 100000 in
theorem rsign {z : Nat → Int} {n k : Nat} {r : Rat} {kr kk : Nat} (hn : n ≤ 1000000) (hk : k ≤ 10000) (hkr : kr ≤ 1000) (hkk : kk ≤ 1000) (hB : ∀ j, j ≤ n → Bd (gN z n r.num ((r.den : Nat) : Int) j).natAbs kk ∧ Bd (((r.den : Nat) : Int) ^ j).natAbs kk) : SiteOk (ph (b_rsign z n k r kr kk)) Tryz.prog ⟨23, [.fact 0, .fact 1], [⟨.one (.i), [(0, 0, 8)]⟩], false⟩ := by
  skip
  exact fn_okL ins_rsign [⟨.one (.i), [(0, 0, 8)]⟩] ss_rsign Tryz.func23 (by kernel_rfl)
    (lbase (sWhole (fun _ _ h => h) (by omega))
      (lbase (tOf (z := 1) rfl (by decide) (by decide) rfl)
      (lbase (qLen (sz := 4) (n := n) (F := (fun ι w v => DecQ w v (((z ι : Int) : Rat)) k)) Tryz.underlying30 (fun _ _ h => Rw.arr h) rfl)
      (lbase (qSubK (fun _ _ h => h) (rfl) rfl (by omega) (by omega))
      (lloop (counted n (fun j => ph (b_rsign z n k r kr kk ++ l_rsign_1 z n k r kr kk j)) (fun _ => 0) (fun j p hp => ph_app' (show p < (b_rsign z n k r kr kk).length from hp)) ⟨fun _ _ h => h.trans (congrArg (Value.int .i64) (by omega)), fun w => DecI.zero w kk, fun _ _ h => DecI.re (h.eqz (by rw [Int.pow_zero])) (hB 0 (by omega)).2, trivial⟩ (fun j hj => by
      skip
      exact ⟨(r_rsign_1_0, [.from 19, .from 17, .from 18]), rfl, ⟨fun _ _ h => h.trans (congrArg (Value.int .i64) (by omega)), fun _ _ h => DecI.re (DecI.eqz (y := gN z n r.num ((r.den : Nat) : Int) (j + 1)) h rfl) (hB (j + 1) (by omega)).1, fun _ _ h => DecI.re (h.eqz (by rw [Int.pow_succ])) (hB (j + 1) (by omega)).2, trivial⟩, (lbase (qTestC (op := .geq) (fun _ _ h => h) (ts_run (decide_eq_true (by omega)) (by simp)))
      (lbase (tMul dD dD rfl (by omega) rfl)
      (lbase (qIdx (i := (n - 1 - j)) (sz := 4) (n := n) (F := (fun ι w v => DecQ w v (((z ι : Int) : Rat)) k)) Tryz.underlying30 (by kernel_rfl) (fun _ _ h => Rw.arr h) (fun _ _ h => h.trans (congrArg (Value.int .i64) (by omega))) (by omega) rfl)
      (lbase (qFld (off := 0) (len := 2) (sz := 4) (F := fun w v => DecQ w v (((z (n - 1 - j) : Int) : Rat)) k) (G := fun w v => DecI w v ((((z (n - 1 - j) : Int) : Rat)).num) k) (by kernel_rfl) (fun _ _ h => h) (by omega) (fun _ _ h => DecQ.fst' h) rfl)
      (lbase (qLoad (sz := 2) (F := fun w v => DecI w v ((((z (n - 1 - j) : Int) : Rat)).num) k) (by kernel_rfl) (by kernel_rfl) (fun _ _ h => h) (fun _ _ _ g h => DecI.kp h g) (fun _ _ h => DecI.is h) rfl)
      (lbase (tMul dD dD rfl (by omega) rfl)
      (lbase (tAdd dD dD rfl (by omega) rfl)
      (lbase (tMul dD dD rfl (by omega) rfl)
      (lbase (qSubK (fun _ _ h => h) (rfl) rfl (by omega) (by omega))
      lnil)))))))))⟩)
      (lbase (qTestC (op := .geq) (fun _ _ h => h) (ts_run (decide_eq_false (by omega)) (by simp)))
      lnil)
      (fun q hq w v h => by
        simp only [d_rsign_1, List.mem_cons, List.not_mem_nil, or_false] at hq
        rcases hq with rfl
        · exact (fun h => h) h)) (lbase (tSignJ dD rfl)
      lnil))))))
    (ins_ok [.fact 0 (.one (.s)), .sub 1 (.agg [.s, .b, .s, .b]) [(0, 2, 2), (2, 2, 3)]] ⟨fun _ _ h => Rw.is (sz := 4) (F := (fun ι w v => DecQ w v (((z ι : Int) : Rat)) k)) (n := n) h, ⟨fun _ _ h => DecQ.is h, fun _ _ h => DecQ.fst h, fun _ _ h => DecQ.snd h, trivial⟩, trivial⟩) (fun _ _ _ h => h)

def b_rends_0 (z : Nat → Int) (n k : Nat) : List (World → Value → Prop) := [fun w v => Rw 4 (fun ι w v => DecQ w v (((z ι : Int) : Rat)) k) n w v, fun _ v => v = .int .i64 ((n : Nat) : Int)]
def ss_rends_0 : List Step := [.base ⟨0, [.fact 0], [⟨.one (.i), [(0, 0, 1)]⟩], .quiet (mLen 30)⟩,
      .base ⟨0, [.fact 1, .lit (.ci .i64 0)], [⟨.one (.lit (.cb true)), []⟩], .quiet (mBin .eql)⟩]
def ins_rends_0 : List Out := [⟨.one (.s), [(0, 0, 0)]⟩]
set_option maxRecDepth 100000 in
theorem rends_0 {z : Nat → Int} {n k : Nat} (h0 : n = 0) : SiteOk (ph (b_rends_0 z n k)) Tryz.prog ⟨18, [.fact 0], [⟨.one (.lit (.ci .i64 0)), []⟩, ⟨.one (.lit (.ci .i64 0)), []⟩], true⟩ := by
  skip
  exact fn_okL ins_rends_0 [⟨.one (.lit (.ci .i64 0)), []⟩, ⟨.one (.lit (.ci .i64 0)), []⟩] ss_rends_0 Tryz.func18 (by kernel_rfl)
    (lbase (qLen (sz := 4) (n := n) (F := (fun ι w v => DecQ w v (((z ι : Int) : Rat)) k)) Tryz.underlying30 (fun _ _ h => Rw.arr h) rfl)
      (lbase (qTestC (op := .eql) (fun _ _ h => h) (ts_run (decide_eq_true (by omega)) (by simp)))
      lnil))
    (ins_ok [.fact 0 (.one (.s))] ⟨fun _ _ h => Rw.is (sz := 4) (F := (fun ι w v => DecQ w v (((z ι : Int) : Rat)) k)) (n := n) h, trivial⟩) (fun _ _ _ h => h)

def b_rends_e (z : Nat → Int) (n k : Nat) : List (World → Value → Prop) := [fun w v => Rw 4 (fun ι w v => DecQ w v (((z ι : Int) : Rat)) k) n w v, fun _ v => v = .int .i64 ((n : Nat) : Int), fun _ v => v = .int .i64 ((n : Nat) : Int), fun _ v => v = .int .i64 (((n - 1) : Nat) : Int), fun w v => Ptr 4 (fun w v => DecQ w v (((z (n - 1) : Int) : Rat)) k) w v, fun w v => Ptr 2 (fun w v => DecI w v ((((z (n - 1) : Int) : Rat)).num) k) w v, fun w v => DecI w v ((((z (n - 1) : Int) : Rat)).num) k, fun _ v => v = .int .i64 (cmpI ((((z (n - 1) : Int) : Rat)).num) 0), fun _ v => v = .int .i64 ((n : Nat) : Int), fun _ v => v = .int .i64 (Int.tmod ((n : Nat) : Int) 2), fun _ v => v = .int .i64 (-(cmpI (((z (n - 1)) : Int) : Rat).num 0))]
def ss_rends_e : List Step := [.base ⟨0, [.fact 0], [⟨.one (.i), [(0, 0, 1)]⟩], .quiet (mLen 30)⟩,
      .base ⟨0, [.fact 1, .lit (.ci .i64 0)], [⟨.one (.lit (.cb false)), []⟩], .quiet (mBin .eql)⟩,
      .base ⟨0, [.fact 0], [⟨.one (.i), [(0, 0, 2)]⟩], .quiet (mLen 30)⟩,
      .base ⟨0, [.fact 2, .lit (.ci .i64 1)], [⟨.one (.i), [(0, 0, 3)]⟩], .quiet (mBin .sub)⟩,
      .base ⟨0, [.fact 0, .fact 3], [⟨.one (.p), [(0, 0, 4)]⟩], .quiet (mIdx 30)⟩,
      .base ⟨0, [.fact 4], [⟨.one (.p), [(0, 0, 5)]⟩], .quiet (mFld 39 0)⟩,
      .base ⟨0, [.fact 5], [⟨.agg [.s, .b], [(0, 0, 6)]⟩], .quiet (mLoad 37)⟩,
      .base ⟨74, [.fact 6], [⟨.one (.i), [(0, 0, 7)]⟩], false⟩,
      .base ⟨0, [.fact 0], [⟨.one (.i), [(0, 0, 8)]⟩], .quiet (mLen 30)⟩,
      .base ⟨0, [.fact 8, .lit (.ci .i64 2)], [⟨.one (.i), [(0, 0, 9)]⟩], .quiet (mRemT)⟩,
      .base ⟨0, [.fact 9, .lit (.ci .i64 0)], [⟨.one (.lit (.cb true)), []⟩], .quiet (mBin .eql)⟩,
      .base ⟨0, [.fact 7], [⟨.one (.i), [(0, 0, 10)]⟩], .quiet (mUn .neg)⟩]
def ins_rends_e : List Out := [⟨.one (.s), [(0, 0, 0)]⟩]
set_option maxRecDepth 100000 in
theorem rends_e {z : Nat → Int} {n k : Nat} (hn : n ≤ 1000000) (h0 : 0 < n) (he : n % 2 = 0) : SiteOk (ph (b_rends_e z n k)) Tryz.prog ⟨18, [.fact 0], [⟨.one (.i), [(0, 0, 10)]⟩, ⟨.one (.i), [(0, 0, 7)]⟩], true⟩ := by
  skip
  exact fn_okL ins_rends_e [⟨.one (.i), [(0, 0, 10)]⟩, ⟨.one (.i), [(0, 0, 7)]⟩] ss_rends_e Tryz.func18 (by kernel_rfl)
    (lbase (qLen (sz := 4) (n := n) (F := (fun ι w v => DecQ w v (((z ι : Int) : Rat)) k)) Tryz.underlying30 (fun _ _ h => Rw.arr h) rfl)
      (lbase (qTestC (op := .eql) (fun _ _ h => h) (ts_run (decide_eq_false (by omega)) (by simp)))
      (lbase (qLen (sz := 4) (n := n) (F := (fun ι w v => DecQ w v (((z ι : Int) : Rat)) k)) Tryz.underlying30 (fun _ _ h => Rw.arr h) rfl)
      (lbase (qSubK (fun _ _ h => h) (by omega) rfl (by omega) (by omega))
      (lbase (qIdx (i := (n - 1)) (sz := 4) (n := n) (F := (fun ι w v => DecQ w v (((z ι : Int) : Rat)) k)) Tryz.underlying30 (by kernel_rfl) (fun _ _ h => Rw.arr h) (fun _ _ h => h) (by omega) rfl)
      (lbase (qFld (off := 0) (len := 2) (sz := 4) (F := fun w v => DecQ w v (((z (n - 1) : Int) : Rat)) k) (G := fun w v => DecI w v ((((z (n - 1) : Int) : Rat)).num) k) (by kernel_rfl) (fun _ _ h => h) (by omega) (fun _ _ h => DecQ.fst' h) rfl)
      (lbase (qLoad (sz := 2) (F := fun w v => DecI w v ((((z (n - 1) : Int) : Rat)).num) k) (by kernel_rfl) (by kernel_rfl) (fun _ _ h => h) (fun _ _ _ g h => DecI.kp h g) (fun _ _ h => DecI.is h) rfl)
      (lbase (tSignJ dD rfl)
      (lbase (qLen (sz := 4) (n := n) (F := (fun ι w v => DecQ w v (((z ι : Int) : Rat)) k)) Tryz.underlying30 (fun _ _ h => Rw.arr h) rfl)
      (lbase (qRemT (fun _ _ h => h) (by decide) rfl)
      (lbase (qTestC (op := .eql) (fun _ _ h => h) (ts_run (decide_eq_true (tmod_even he)) (by simp)))
      (lbase (qNegJ (fun _ _ h => h) rfl rfl (by have := cmpI_bd (((z (n - 1)) : Int) : Rat).num 0; omega) (by have := cmpI_bd (((z (n - 1)) : Int) : Rat).num 0; omega))
      lnil))))))))))))
    (ins_ok [.fact 0 (.one (.s))] ⟨fun _ _ h => Rw.is (sz := 4) (F := (fun ι w v => DecQ w v (((z ι : Int) : Rat)) k)) (n := n) h, trivial⟩) (fun _ _ _ h => h)

def b_rends_o (z : Nat → Int) (n k : Nat) : List (World → Value → Prop) := [fun w v => Rw 4 (fun ι w v => DecQ w v (((z ι : Int) : Rat)) k) n w v, fun _ v => v = .int .i64 ((n : Nat) : Int), fun _ v => v = .int .i64 ((n : Nat) : Int), fun _ v => v = .int .i64 (((n - 1) : Nat) : Int), fun w v => Ptr 4 (fun w v => DecQ w v (((z (n - 1) : Int) : Rat)) k) w v, fun w v => Ptr 2 (fun w v => DecI w v ((((z (n - 1) : Int) : Rat)).num) k) w v, fun w v => DecI w v ((((z (n - 1) : Int) : Rat)).num) k, fun _ v => v = .int .i64 (cmpI ((((z (n - 1) : Int) : Rat)).num) 0), fun _ v => v = .int .i64 ((n : Nat) : Int), fun _ v => v = .int .i64 (Int.tmod ((n : Nat) : Int) 2)]
def ss_rends_o : List Step := [.base ⟨0, [.fact 0], [⟨.one (.i), [(0, 0, 1)]⟩], .quiet (mLen 30)⟩,
      .base ⟨0, [.fact 1, .lit (.ci .i64 0)], [⟨.one (.lit (.cb false)), []⟩], .quiet (mBin .eql)⟩,
      .base ⟨0, [.fact 0], [⟨.one (.i), [(0, 0, 2)]⟩], .quiet (mLen 30)⟩,
      .base ⟨0, [.fact 2, .lit (.ci .i64 1)], [⟨.one (.i), [(0, 0, 3)]⟩], .quiet (mBin .sub)⟩,
      .base ⟨0, [.fact 0, .fact 3], [⟨.one (.p), [(0, 0, 4)]⟩], .quiet (mIdx 30)⟩,
      .base ⟨0, [.fact 4], [⟨.one (.p), [(0, 0, 5)]⟩], .quiet (mFld 39 0)⟩,
      .base ⟨0, [.fact 5], [⟨.agg [.s, .b], [(0, 0, 6)]⟩], .quiet (mLoad 37)⟩,
      .base ⟨74, [.fact 6], [⟨.one (.i), [(0, 0, 7)]⟩], false⟩,
      .base ⟨0, [.fact 0], [⟨.one (.i), [(0, 0, 8)]⟩], .quiet (mLen 30)⟩,
      .base ⟨0, [.fact 8, .lit (.ci .i64 2)], [⟨.one (.i), [(0, 0, 9)]⟩], .quiet (mRemT)⟩,
      .base ⟨0, [.fact 9, .lit (.ci .i64 0)], [⟨.one (.lit (.cb false)), []⟩], .quiet (mBin .eql)⟩]
def ins_rends_o : List Out := [⟨.one (.s), [(0, 0, 0)]⟩]
set_option maxRecDepth 100000 in
theorem rends_o {z : Nat → Int} {n k : Nat} (hn : n ≤ 1000000) (h0 : 0 < n) (he : ¬ n % 2 = 0) : SiteOk (ph (b_rends_o z n k)) Tryz.prog ⟨18, [.fact 0], [⟨.one (.i), [(0, 0, 7)]⟩, ⟨.one (.i), [(0, 0, 7)]⟩], true⟩ := by
  skip
  exact fn_okL ins_rends_o [⟨.one (.i), [(0, 0, 7)]⟩, ⟨.one (.i), [(0, 0, 7)]⟩] ss_rends_o Tryz.func18 (by kernel_rfl)
    (lbase (qLen (sz := 4) (n := n) (F := (fun ι w v => DecQ w v (((z ι : Int) : Rat)) k)) Tryz.underlying30 (fun _ _ h => Rw.arr h) rfl)
      (lbase (qTestC (op := .eql) (fun _ _ h => h) (ts_run (decide_eq_false (by omega)) (by simp)))
      (lbase (qLen (sz := 4) (n := n) (F := (fun ι w v => DecQ w v (((z ι : Int) : Rat)) k)) Tryz.underlying30 (fun _ _ h => Rw.arr h) rfl)
      (lbase (qSubK (fun _ _ h => h) (by omega) rfl (by omega) (by omega))
      (lbase (qIdx (i := (n - 1)) (sz := 4) (n := n) (F := (fun ι w v => DecQ w v (((z ι : Int) : Rat)) k)) Tryz.underlying30 (by kernel_rfl) (fun _ _ h => Rw.arr h) (fun _ _ h => h) (by omega) rfl)
      (lbase (qFld (off := 0) (len := 2) (sz := 4) (F := fun w v => DecQ w v (((z (n - 1) : Int) : Rat)) k) (G := fun w v => DecI w v ((((z (n - 1) : Int) : Rat)).num) k) (by kernel_rfl) (fun _ _ h => h) (by omega) (fun _ _ h => DecQ.fst' h) rfl)
      (lbase (qLoad (sz := 2) (F := fun w v => DecI w v ((((z (n - 1) : Int) : Rat)).num) k) (by kernel_rfl) (by kernel_rfl) (fun _ _ h => h) (fun _ _ _ g h => DecI.kp h g) (fun _ _ h => DecI.is h) rfl)
      (lbase (tSignJ dD rfl)
      (lbase (qLen (sz := 4) (n := n) (F := (fun ι w v => DecQ w v (((z ι : Int) : Rat)) k)) Tryz.underlying30 (fun _ _ h => Rw.arr h) rfl)
      (lbase (qRemT (fun _ _ h => h) (by decide) rfl)
      (lbase (qTestC (op := .eql) (fun _ _ h => h) (ts_run (decide_eq_false (fun h => he (tmod_even' h))) (by simp)))
      lnil)))))))))))
    (ins_ok [.fact 0 (.one (.s))] ⟨fun _ _ h => Rw.is (sz := 4) (F := (fun ι w v => DecQ w v (((z ι : Int) : Rat)) k)) (n := n) h, trivial⟩) (fun _ _ _ h => h)

def rSg (z : Nat → Int) (n : Nat) : Int := if n = 0 then 0 else cmpI (z (n - 1)) 0
def rMin (z : Nat → Int) (n : Nat) : Int := if n = 0 then 0 else if n % 2 = 0 then -(cmpI (z (n - 1)) 0) else cmpI (z (n - 1)) 0
section
variable {Φ : Nat → World → Value → Prop} {p q x x1 x2 y n k kr kk kt kn : Nat} {z : Nat → Int} {r : Rat}
theorem sRAt (hp : ∀ w v, Φ p w v → Rw 4 (fun i w v => DecQ w v ((z i : Int) : Rat) k) n w v) (hq : ∀ w v, Φ q w v → DecQ w v r kr) (hx : Φ x = fun w v => DecQ w v (qH z n r n) kk) (hn : n ≤ 1000000) (hk : k ≤ 10000) (hkr : kr ≤ 1000) (hkk : kk ≤ 1000) (hB : ∀ j, j ≤ n → Bd (qH z n r j).num.natAbs kk ∧ Bd (qH z n r j).den kk) : SiteOk Φ Tryz.prog ⟨20, [.fact p, .fact q], [⟨sS, [(0, 0, x)]⟩], false⟩ :=
  viaG (rat_ hn hk hkr hkk hB) ⟨hp, hq, trivial⟩ ⟨⟨rfl, ⟨rfl, rfl, fun _ _ h => hx ▸ h⟩, trivial⟩, trivial⟩
theorem sRSign (hp : ∀ w v, Φ p w v → Rw 4 (fun i w v => DecQ w v ((z i : Int) : Rat) k) n w v) (hq : ∀ w v, Φ q w v → DecQ w v r kr) (hx : Φ x = fun _ v => v = .int .i64 (cmpI (gN z n r.num ((r.den : Nat) : Int) n) 0)) (hn : n ≤ 1000000) (hk : k ≤ 10000) (hkr : kr ≤ 1000) (hkk : kk ≤ 1000) (hB : ∀ j, j ≤ n → Bd (gN z n r.num ((r.den : Nat) : Int) j).natAbs kk ∧ Bd (((r.den : Nat) : Int) ^ j).natAbs kk) : SiteOk Φ Tryz.prog ⟨23, [.fact p, .fact q], [⟨.one .i, [(0, 0, x)]⟩], false⟩ :=
  viaG (rsign hn hk hkr hkk hB) ⟨hp, hq, trivial⟩ ⟨⟨rfl, ⟨rfl, rfl, fun _ _ h => hx ▸ h⟩, trivial⟩, trivial⟩
theorem sPAt {q' : Rat} {t : Rat} (hp : ∀ w v, Φ p w v → Rw 2 (fun i w v => IntV w v (z i) k) n w v) (hr : ∀ w v, Φ q w v → RatV w v q' kt) (hx : Φ x = fun w v => NorQ w v t (kn + kn)) (hx1 : Φ x1 = fun w v => NorV w v t.num (kn + kn)) (hx2 : Φ x2 = fun w v => NorV w v (t.den : Int) (kn + kn)) (hn : n ≤ 1000000) (hk : k ≤ 40000) (hkt : kt ≤ 30000) (hkn : kn ≤ 50000) (hB : ∀ j, j ≤ tl z n - 1 → Bd (hN z (tl z n) q'.num q'.den j).natAbs kn ∧ Bd (((q'.den : Nat) : Int) ^ j).natAbs kn) (ht : Rat.divInt (hN z (tl z n) q'.num q'.den (tl z n - 1)) (((q'.den : Nat) : Int) ^ (tl z n - 1)) = t) :
    SiteOk Φ Tryz.prog ⟨21, [.fact p, .fact q], [⟨qS, [(0, 0, x), (0, 2, x1), (2, 2, x2)]⟩], false⟩ :=
  viaG (pat hn hk hkt hkn hB) ⟨hp, hr, trivial⟩ ⟨⟨rfl, ⟨rfl, rfl, fun _ _ h => hx ▸ ht ▸ h⟩, ⟨rfl, rfl, fun _ _ h => hx1 ▸ ht ▸ h⟩, ⟨rfl, rfl, fun _ _ h => hx2 ▸ ht ▸ h⟩, trivial⟩, trivial⟩
theorem z_is {w : World} {us : List Value} {X : Nat → Prop} {y : Nat} {t t' : Int} (hx : Φ x = fun _ v => v = .int .i64 t) (hy : Φ y = fun _ v => v = .int .i64 t') (ht : t = 0) (ht' : t' = 0) (h : outsOk Φ X w [⟨.one (.lit (.ci .i64 0)), []⟩, ⟨.one (.lit (.ci .i64 0)), []⟩] us) : outsOk Φ X w [⟨.one .i, [(0, 0, x)]⟩, ⟨.one .i, [(0, 0, y)]⟩] us := by
  subst ht ht'
  match us, h with
  | [u, v], h =>
    obtain rfl : u = .int .i64 0 := h.1.1.1
    obtain rfl : v = .int .i64 0 := h.2.1.1.1
    exact ⟨(one_out (int_is 0) hx fun _ _ => rfl).1, (one_out (int_is 0) hy fun _ _ => rfl).1, trivial⟩
theorem sREnds (hp : ∀ w v, Φ p w v → Rw 4 (fun i w v => DecQ w v ((z i : Int) : Rat) k) n w v) (hx : Φ x = fun _ v => v = .int .i64 (rMin z n)) (hy : Φ y = fun _ v => v = .int .i64 (rSg z n)) (hn : n ≤ 1000000) :
    SiteOk Φ Tryz.prog ⟨18, [.fact p], [⟨.one .i, [(0, 0, x)]⟩, ⟨.one .i, [(0, 0, y)]⟩], true⟩ := by
  rcases Nat.eq_zero_or_pos n with h | h
  · intro X w vs hX ha
    exact (viaG (outs := [⟨.one (.lit (.ci .i64 0)), []⟩, ⟨.one (.lit (.ci .i64 0)), []⟩]) (Φ := Φ) (ar := [.fact p]) (rends_0 (z := z) (k := k) h) ⟨hp, trivial⟩ ⟨⟨rfl, trivial⟩, ⟨rfl, trivial⟩, trivial⟩ X w vs hX ha).mono fun e w' ⟨hg, us, he, h2⟩ => ⟨hg, us, he, z_is hx hy (if_pos h) (if_pos h) h2⟩
  · by_cases he : n % 2 = 0
    · exact viaG (rends_e hn h he) ⟨hp, trivial⟩ ⟨⟨rfl, ⟨rfl, rfl, fun _ _ h' => by rw [hx, rMin, if_neg (by omega), if_pos he]; exact h'⟩, trivial⟩, ⟨rfl, ⟨rfl, rfl, fun _ _ h' => by rw [hy, rSg, if_neg (by omega)]; exact h'⟩, trivial⟩, trivial⟩
    · exact viaG (rends_o hn h he) ⟨hp, trivial⟩ ⟨⟨rfl, ⟨rfl, rfl, fun _ _ h' => by rw [hx, rMin, if_neg (by omega), if_neg he]; exact h'⟩, trivial⟩, ⟨rfl, ⟨rfl, rfl, fun _ _ h' => by rw [hy, rSg, if_neg (by omega)]; exact h'⟩, trivial⟩, trivial⟩
theorem sKRat5 (k : Nat) {ki a u : Int} {b b' : Bool} {xs ys : List Nat} (hki : (k : Int) = ki) (hp : ∀ w v, Φ p w v → RawQ w v b xs b' ys) (hx : Φ x = fun w v => QV w v a u k) (hz : sg b (Proofs.YtncaiomdcpppeaaGreat.val 4294967296 (xs.take k)) = a) (hu : sg b' (Proofs.YtncaiomdcpppeaaGreat.val 4294967296 (ys.take k)) = u) : SiteOk Φ Tryz.prog ⟨14, [.fact p, .lit (.ci .i64 ki)], [⟨qS, [(0, 0, x)]⟩], false⟩ := fun X w vs hX ha => by
  subst hki
  match vs, ha with
  | [v, c], ha =>
    refine ((sKRatJ (Φ := ph [fun w v => RawQ w v b xs b' ys, fun _ v => v = .int .i64 (k : Int), fun w v => RawQ w v b (xs.take k) b' (ys.take k), fun w v => QV w v a u k]) (p := 0) (q := 1) (x := 2) (x' := 3) k (fun _ _ h => h) (fun _ _ h => h) rfl rfl hz hu) X w [v, c] hX ⟨fun w1 hw => hp _ _ (ha.1 w1 hw), fun w1 _ => ha.2.1, trivial⟩).mono fun e w' ⟨hg, us, he, ho⟩ => ⟨hg, us, he, ?_⟩
    match us, ho with
    | [t], ho => exact one_out ho.1.1 hx fun w1 hw => ho.1.2 (0, 0, 3) (List.mem_cons_of_mem _ (List.mem_cons_self ..)) w1 hw
end
end Go.Proofs.YtncaiomdcpppeaaGreat.Sym
