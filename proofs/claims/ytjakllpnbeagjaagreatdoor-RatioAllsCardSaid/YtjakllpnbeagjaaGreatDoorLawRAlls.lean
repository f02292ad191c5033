/- RatioAlls holds: for every rational and every row of rationals the law returns true. No condition but what the row lists. -/
import Derived.Test.YtjakllpnbeagjaaGreatDoorRowRat
import Derived.Test.YtjakllpnbeagjaaGreatDoorRatL
import Derived.Test.YtjakllpnbeagjaaGreatDoorRowR
import Derived.Test.YtjakllpnbeagjaaGreatDoorSymU
import Derived.Deep.Slices
namespace Go.Proofs.YtjakllpnbeagjaaGreatDoor.ratioalls
open Go.ChangeShapes Go.WideShapes Go.ChangeAt Go.RowKit

open Go.Proofs.YtjakllpnbeagjaaGreatDoor.Sym hiding val run start
theorem stand_no (t : TypeId) (h : t ∈ ([46, 24, 3, 4, 9, 57] : List TypeId)) : Tryz.prog.wantsStandIn t = false := by
  simp only [List.mem_cons, List.mem_nil_iff, or_false] at h
  rcases h with rfl | rfl | rfl | rfl | rfl | rfl <;> kernel_rfl
set_option maxRecDepth 100000 in
theorem rats_of_trod {H : Type} {enc : TypeId × Value → H} {W : World} {base base' : Nat} {held : Bool} {v : Value} {d : DataW H} {ps : List MemPlace}
    (h : DataW.Trod enc Tryz.prog W base (fun _ => true) held 57 v d ps) (hv : Value.okWide Tryz.prog W .any base' 57 v) : ∃ (n : Nat) (qa qb : Nat → Bool) (qx qy : Nat → List Nat), Arr 4 (fun i w v => RawQ w v (qa i) (qx i) (qb i) (qy i)) n W v := by
  obtain ⟨a0, len, cap, rfl⟩ := okWide_slice Tryz.underlying57 hv
  obtain ⟨fuel, hf⟩ := h
  rcases Deep.open_slice Tryz.underlying57 hf with ⟨hcs, _⟩ | ⟨a, len', cap', m, n, D, Pl, hcs, _, hl, hm, hmm, _, hx⟩
  · simp [Value.cells] at hcs
    obtain ⟨rfl, rfl, rfl⟩ := hcs
    exact ⟨0, fun _ => false, fun _ => false, fun _ => [], fun _ => [], none, 0, rfl, fun i hi => by omega⟩
  · simp [Value.cells] at hcs
    obtain ⟨rfl, rfl, rfl⟩ := hcs
    simp only [if_true] at hmm
    have each : ∀ i, i < len → ∃ q : Bool × Bool × List Nat × List Nat × List Value, q.2.2.2.2.length = 4 ∧ (∀ (j : Nat) (u : Value), q.2.2.2.2[j]? = some u → W.cell? (a.add (i * 4 + j)) = some u) ∧ RawQ W (.agg q.2.2.2.2.toArray) q.1 q.2.2.1 q.2.1 q.2.2.2.1 := fun i hi => by
      obtain ⟨cs, h1, h2⟩ := hx i (by omega)
      rw [Tryz.cells46] at h1
      obtain ⟨_, hlen, hcell⟩ := World.cells?_some h1
      match cs, hlen with
      | [c0, c1, c2, c3], _ =>
        obtain ⟨y0, y1, n, -, -, h3, h4⟩ := trod_struct2 Tryz.underlying46 h2
        simp only [Tryz.cells24, List.drop_zero, List.take_succ_cons, List.take_zero, List.drop_succ_cons] at h3 h4
        obtain ⟨b, xs, rfl, h5, h6⟩ := int_of_cells h3
        obtain ⟨b', ys, rfl, h7, h8⟩ := int_of_cells h4
        refine ⟨(b, b', xs, ys, [.bool b, c1, .bool b', c3]), rfl, fun j u hj => ?_, ⟨_, _, rfl, h5, h6, h7, h8⟩⟩
        have hlt := (List.getElem?_eq_some_iff.1 hj).1
        have e := hcell j (by simpa using hlt)
        rw [Deep.add_add] at e
        rw [e]
        exact hj
    obtain ⟨q, hq⟩ := Deep.choose_lt each
    refine ⟨len, fun i => (q i).1, fun i => (q i).2.1, fun i => (q i).2.2.1, fun i => (q i).2.2.2.1, some a, cap, rfl, fun i hi => ?_⟩
    obtain ⟨h1, h2, h3⟩ := hq i hi
    obtain ⟨b, off, spot⟩ := a
    obtain ⟨g1, g2, -⟩ := hq 0 (by omega)
    have h0 := g2 0 ((q 0).2.2.2.2[0]'(by omega)) (List.getElem?_eq_getElem (by omega))
    have hspot : spot = none := by simpa [Addr.add] using World.cell?_spot h0
    subst hspot
    refine ⟨b, off, rfl, (q i).2.2.2.2, h1, fun j u hj => ?_, h3⟩
    have := h2 j u hj
    rw [Addr.add_lit] at this
    rw [Nat.add_assoc]; exact this
/-- A row that came in stays in every world where no old block differs. -/
theorem arg_arr {Φ : Nat → World → Value → Prop} {p sz n : Nat} {F : Nat → World → Value → Prop} {w : World} {v : Value} (hF : ∀ i w w1 v, Kp w w1 → F i w v → F i w1 v) (h : Arr sz F n w v) (hp : Φ p = fun w v => Arr sz F n w v := by rfl) : (Arg.fact p).ok Φ (fun _ => False) w v := fun w1 hw => by
  rw [hp]
  obtain ⟨p, c, rfl, h1⟩ := h
  refine ⟨p, c, rfl, fun i hi => ?_⟩
  obtain ⟨b, off, rfl, l, h2, h3, h4⟩ := h1 i hi
  refine ⟨b, off, rfl, l, h2, fun j u hj => ?_, hF _ _ _ _ hw.1 h4⟩
  have := h3 j u hj
  rw [World.cell?_of_block (hw.2 b (World.block_lt_of_cell? _ _ this) (fun h => h))]
  exact this
theorem onJ {P : Program} {Φ : Nat → World → Value → Prop} (J : List Nat) {f : FuncId} {args : List Arg} {outs : List Out} {tup : Bool} (h : SiteOk Φ P ⟨f, args, outs, .call tup⟩) : SiteOk Φ P ⟨f, args, outs, .callJ J tup⟩ := h
theorem tCmpRJ {Φ : Nat → World → Value → Prop} {p q x i j : Nat} {z y : Rat} (hp : ∀ w v, Φ p w v → DecQ w v z i) (hq : ∀ w v, Φ q w v → DecQ w v y j) (hk : i + j ≤ 100000) (hx : Φ x = fun _ v => v = .int .i64 (cmpQ z y)) : SiteOk Φ Tryz.prog ⟨30, [.fact p, .fact q], [⟨.one .i, [(0, 0, x)]⟩], false⟩ :=
  site2 fun _ _ _ _ h0 h1 => (CmpR_g (hp _ _ (get h0)) (hq _ _ (get h1)) _ hk rfl).mono fun _ _ h => pstJ hx h
theorem infoR : (Tryz.prog.info? 46).map (fun i => (i.zero, i.size, i.bytes)) = some (some (.agg #[.bool false, .slice none 0 0, .bool false, .slice none 0 0]), 4, 64) := by kernel_rfl
theorem QV.cells {w : World} {l : List Value} {z y : Int} {k : Nat} (h : QV w (.agg l.toArray) z y k) : ∀ u, u ∈ l → u.oneCell' = true ∧ NoNum u := by
  obtain ⟨b, p, n, c, b', p', n', c', e, -⟩ := h
  simp only [Value.agg.injEq] at e
  have hl : l = [.bool b, .slice p n c, .bool b', .slice p' n' c'] := by have := congrArg Array.toList e; simpa using this
  subst hl
  intro u hu
  simp only [List.mem_cons, List.not_mem_nil, or_false] at hu
  rcases hu with rfl | rfl | rfl | rfl <;> exact ⟨rfl, fun k m e => by cases e⟩
theorem qAppQ {Φ : Nat → World → Value → Prop} {p q x j n : Nat} {F : Nat → World → Value → Prop} (hF : ∀ i w w1 v, Kp w w1 → F i w v → F i w1 v) (hp : ∀ w v, Φ p w v → ArrO 4 46 F n w v) (hq : ∀ w v, Φ q w v → F n w v) (hc : ∀ w (l : List Value), Φ q w (.agg l.toArray) → ∀ u, u ∈ l → u.oneCell' = true ∧ NoNum u) (hn : n ≤ 1000000) (hx : Φ x = fun w v => ArrO 4 46 F (n + 1) w v) :
    SiteOk Φ Tryz.prog ⟨0, [.fact p, .row 4 [q]], [⟨.one .s, [(0, 0, x)]⟩], .loose [] j 0 (mApp 57 57)⟩ := by
  obtain ⟨i0, hi, hz0, hz1, hz2⟩ := info_parts infoR
  exact qAppR Tryz.underlying57 hi hz0 hz1 hz2 rfl (by omega) (by omega) (fun x hx => by
    have hx' : x ∈ [Value.bool false, .slice none 0 0, .bool false, .slice none 0 0] := hx
    simp only [List.mem_cons, List.not_mem_nil, or_false] at hx'
    rcases hx' with rfl | rfl | rfl | rfl <;> exact fun k m e => by cases e) hF hp hq hc hn hx
/-- The bound of the reference's sum of j. -/
def sK : Nat → Nat
  | 0 => 6
  | j + 1 => 3 * (sK j + (2 * 3 + 2)) + 3
theorem sK_le {j : Nat} (h : j ≤ 6) : sK j ≤ 14202 := by
  have : j = 0 ∨ j = 1 ∨ j = 2 ∨ j = 3 ∨ j = 4 ∨ j = 5 ∨ j = 6 := by omega
  rcases this with rfl | rfl | rfl | rfl | rfl | rfl | rfl <;> decide
theorem smK_le {j : Nat} (h : j ≤ 6) : smK 3 j ≤ 14202 := by
  have : j = 0 ∨ j = 1 ∨ j = 2 ∨ j = 3 ∨ j = 4 ∨ j = 5 ∨ j = 6 := by omega
  rcases this with rfl | rfl | rfl | rfl | rfl | rfl | rfl <;> decide
theorem qOf01 : qOf 0 1 = ((0 : Int) : Rat) := by decide +kernel
def b_path_s (a0 b0 : Bool) (xs0 ys0 : List Nat) (z0 u0 : Int) (qa qb : Nat → Bool) (qx qy : Nat → List Nat) (ez ey : Nat → Int) (n0 n : Nat) : List (World → Value → Prop) := [fun w v => RawQ w v a0 xs0 b0 ys0, fun w v => Arr 4 (fun i w v => RawQ w v (qa i) (qx i) (qb i) (qy i)) n0 w v, fun w v => RawQ w v a0 (xs0.take 3) b0 (ys0.take 3), fun w v => QV w v z0 u0 3, fun w v => IntV w v z0 3, fun w v => IntV w v u0 3, fun w v => DecQ w v (qOf z0 u0) (2 * 3 + 2), fun w v => DecI w v ((qOf z0 u0).num) (2 * 3 + 2), fun w v => DecI w v ((qOf z0 u0).den : Int) (2 * 3 + 2), fun w v => DecQ w v (qOf 0 1) 6, fun w v => DecI w v ((qOf 0 1).num) 6, fun w v => DecI w v ((qOf 0 1).den : Int) 6, fun w v => ArrO 4 46 (fun i w v => QV w v (ez i) (ey i) 3) n w v, fun w v => DecQ w v (smQ ez ey n) (sK n), fun w v => DecQ w v (qOf (mxN z0 u0 ez ey n).1 (mxN z0 u0 ez ey n).2) (2 * 3 + 2), fun w v => NorQ w v (smQ ez ey n) (smK 3 n), fun w v => NorV w v ((smQ ez ey n).num) (smK 3 n), fun w v => NorV w v ((smQ ez ey n).den : Int) (smK 3 n), fun w v => NorQ w v (qOf (mxN z0 u0 ez ey n).1 (mxN z0 u0 ez ey n).2) (3 + 2), fun w v => NorV w v ((qOf (mxN z0 u0 ez ey n).1 (mxN z0 u0 ez ey n).2).num) (3 + 2), fun w v => NorV w v ((qOf (mxN z0 u0 ez ey n).1 (mxN z0 u0 ez ey n).2).den : Int) (3 + 2)]
def l_path_s (z0 u0 : Int) (qa qb : Nat → Bool) (qx qy : Nat → List Nat) (ez ey : Nat → Int) (n0 : Nat) (j : Nat) : List (World → Value → Prop) := [fun _ v => v = .int .i64 (j : Int), fun w v => ArrO 4 46 (fun i w v => QV w v (ez i) (ey i) 3) j w v, fun _ _ => True, fun w v => DecQ w v (smQ ez ey j) (sK j), fun w v => DecQ w v (qOf (mxN z0 u0 ez ey j).1 (mxN z0 u0 ez ey j).2) (2 * 3 + 2), fun _ v => v = .int .i64 (n0 : Int), fun w v => Ptr 4 (fun w v => RawQ w v (qa j) (qx j) (qb j) (qy j)) w v, fun w v => RawQ w v (qa j) (qx j) (qb j) (qy j), fun w v => RawQ w v (qa j) ((qx j).take 3) (qb j) ((qy j).take 3), fun w v => QV w v (ez j) (ey j) 3, fun w v => IntV w v (ez j) 3, fun w v => IntV w v (ey j) 3, fun w v => DecQ w v (qOf (ez j) (ey j)) (2 * 3 + 2), fun w v => DecI w v ((qOf (ez j) (ey j)).num) (2 * 3 + 2), fun w v => DecI w v ((qOf (ez j) (ey j)).den : Int) (2 * 3 + 2), fun w v => ArrO 4 46 (fun i w v => QV w v (ez i) (ey i) 3) (j + 1) w v, fun w v => DecQ w v (smQ ez ey (j + 1)) (sK (j + 1)), fun w v => DecI w v ((smQ ez ey (j + 1)).num) (sK (j + 1)), fun w v => DecI w v ((smQ ez ey (j + 1)).den : Int) (sK (j + 1)), fun _ v => v = .int .i64 (cmpQ (qOf (ez j) (ey j)) (qOf (mxN z0 u0 ez ey j).1 (mxN z0 u0 ez ey j).2)), fun _ v => v = .int .i64 ((j + 1 : Nat) : Int), fun _ v => v = .int .i64 (n0 : Int), fun w v => Ptr 4 (fun w v => RawQ w v (qa j) (qx j) (qb j) (qy j)) w v, fun w v => RawQ w v (qa j) (qx j) (qb j) (qy j), fun w v => RawQ w v (qa j) ((qx j).take 3) (qb j) ((qy j).take 3), fun w v => QV w v (ez j) (ey j) 3, fun w v => IntV w v (ez j) 3, fun w v => IntV w v (ey j) 3, fun w v => DecQ w v (qOf (ez j) (ey j)) (2 * 3 + 2), fun w v => DecI w v ((qOf (ez j) (ey j)).num) (2 * 3 + 2), fun w v => DecI w v ((qOf (ez j) (ey j)).den : Int) (2 * 3 + 2), fun w v => ArrO 4 46 (fun i w v => QV w v (ez i) (ey i) 3) (j + 1) w v, fun w v => DecQ w v (smQ ez ey (j + 1)) (sK (j + 1)), fun w v => DecI w v ((smQ ez ey (j + 1)).num) (sK (j + 1)), fun w v => DecI w v ((smQ ez ey (j + 1)).den : Int) (sK (j + 1)), fun _ v => v = .int .i64 (cmpQ (qOf (ez j) (ey j)) (qOf (mxN z0 u0 ez ey j).1 (mxN z0 u0 ez ey j).2)), fun _ v => v = .int .i64 ((j + 1 : Nat) : Int), fun _ v => v = .int .i64 (n0 : Int)]
def d_path_s : LoopD := ⟨[0, 1, 2, 4, 5, 6, 7, 12, 13, 14, 15, 16, 17, 18], [(.slot 9, .i), (.slot 8, .s), (.cell 13 0, .s), (.cell 13 1, .b), (.cell 13 2, .s), (.cell 13 3, .b), (.cell 14 0, .s), (.cell 14 1, .b), (.cell 14 2, .s), (.cell 14 3, .b)], [(.one 0, 21), (.one 1, .at [1] 22), (.one 1, .lo 1), (.agg [2, 3, 4, 5], 24), (.agg [6, 7, 8, 9], 25)], [.closed (.one (.ci .i64 0)), .closed (.one (.nl)), .from 0, .from 9, .from 6], 21, [(22, 12), (24, 13), (25, 14)]⟩
def r_path_s_0 : List Step := [.base ⟨0, [.fact 1], [⟨.one (.i), [(0, 0, 26)]⟩], .quiet (mLen 57)⟩,
      .base ⟨0, [.fact 21, .fact 26], [⟨.one (.lit (.cb true)), []⟩], .quiet (mBin .lss)⟩,
      .base ⟨0, [.fact 21, .lit (.ci .i64 6)], [⟨.one (.lit (.cb true)), []⟩], .quiet (mBin .lss)⟩,
      .base ⟨0, [.fact 1, .fact 21], [⟨.one (.p), [(0, 0, 27)]⟩], .quiet (mIdx 57)⟩,
      .base ⟨0, [.fact 27], [⟨.agg [.b, .s, .b, .s], [(0, 0, 28)]⟩], .quiet (mLoad 46)⟩,
      .base ⟨27, [.fact 28, .lit (.ci .i64 3)], [⟨.agg [.b, .s, .b, .s], [(0, 0, 29), (0, 0, 30), (0, 2, 31), (2, 2, 32)]⟩, ⟨.agg [.s, .b, .s, .b], [(0, 0, 33), (0, 2, 34), (2, 2, 35)]⟩], true⟩,
      .base ⟨0, [.fact 22, .row 4 [30]], [⟨.one (.s), [(0, 0, 36)]⟩], .loose [] 1 0 (mApp 57 57)⟩,
      .base ⟨29, [.fact 24, .fact 33], [⟨.agg [.s, .b, .s, .b], [(0, 0, 37), (0, 2, 38), (2, 2, 39)]⟩], false⟩,
      .base ⟨30, [.fact 33, .fact 25], [⟨.one (.i), [(0, 0, 40)]⟩], false⟩,
      .base ⟨0, [.fact 40, .lit (.ci .i64 0)], [⟨.one (.lit (.cb true)), []⟩], .quiet (mBin .gtr)⟩,
      .base ⟨0, [.fact 21, .lit (.ci .i64 1)], [⟨.one (.i), [(0, 0, 41)]⟩], .quiet (mBin .add)⟩]
def r_path_s_1 : List Step := [.base ⟨0, [.fact 1], [⟨.one (.i), [(0, 0, 42)]⟩], .quiet (mLen 57)⟩,
      .base ⟨0, [.fact 21, .fact 42], [⟨.one (.lit (.cb true)), []⟩], .quiet (mBin .lss)⟩,
      .base ⟨0, [.fact 21, .lit (.ci .i64 6)], [⟨.one (.lit (.cb true)), []⟩], .quiet (mBin .lss)⟩,
      .base ⟨0, [.fact 1, .fact 21], [⟨.one (.p), [(0, 0, 43)]⟩], .quiet (mIdx 57)⟩,
      .base ⟨0, [.fact 43], [⟨.agg [.b, .s, .b, .s], [(0, 0, 44)]⟩], .quiet (mLoad 46)⟩,
      .base ⟨27, [.fact 44, .lit (.ci .i64 3)], [⟨.agg [.b, .s, .b, .s], [(0, 0, 45), (0, 0, 46), (0, 2, 47), (2, 2, 48)]⟩, ⟨.agg [.s, .b, .s, .b], [(0, 0, 49), (0, 2, 50), (2, 2, 51)]⟩], true⟩,
      .base ⟨0, [.fact 22, .row 4 [46]], [⟨.one (.s), [(0, 0, 52)]⟩], .loose [] 1 0 (mApp 57 57)⟩,
      .base ⟨29, [.fact 24, .fact 49], [⟨.agg [.s, .b, .s, .b], [(0, 0, 53), (0, 2, 54), (2, 2, 55)]⟩], false⟩,
      .base ⟨30, [.fact 49, .fact 25], [⟨.one (.i), [(0, 0, 56)]⟩], false⟩,
      .base ⟨0, [.fact 56, .lit (.ci .i64 0)], [⟨.one (.lit (.cb false)), []⟩], .quiet (mBin .gtr)⟩,
      .base ⟨0, [.fact 21, .lit (.ci .i64 1)], [⟨.one (.i), [(0, 0, 57)]⟩], .quiet (mBin .add)⟩]
def o_path_s : List Step := [.base ⟨0, [.fact 1], [⟨.one (.i), [(0, 0, 58)]⟩], .quiet (mLen 57)⟩,
      .base ⟨0, [.fact 21, .fact 58], [⟨.one (.lit (.cb false)), []⟩], .quiet (mBin .lss)⟩]
def ss_path_s : List Step := [.base ⟨27, [.fact 0, .lit (.ci .i64 3)], [⟨.agg [.b, .s, .b, .s], [(0, 0, 2), (0, 0, 3), (0, 2, 4), (2, 2, 5)]⟩, ⟨.agg [.s, .b, .s, .b], [(0, 0, 6), (0, 2, 7), (2, 2, 8)]⟩], true⟩,
      .base ⟨28, [.lit (.ci .i64 0), .lit (.ci .i64 1)], [⟨.agg [.s, .b, .s, .b], [(0, 0, 9), (0, 2, 10), (2, 2, 11)]⟩], false⟩,
      .loop d_path_s [(r_path_s_0, [.from 41, .from 36, .from 0, .from 37, .from 33]), (r_path_s_1, [.from 57, .from 52, .from 0, .from 53, .from 25])] o_path_s,
      .base ⟨32, [.fact 12], [⟨.agg [.b, .s, .b, .s], [(0, 0, 15), (0, 2, 16), (2, 2, 17)]⟩], .callJ [1] false⟩,
      .base ⟨31, [.fact 13, .fact 15], [⟨.one (.lit (.cb true)), []⟩], .callJ [1] false⟩,
      .base ⟨33, [.fact 3, .fact 12], [⟨.agg [.b, .s, .b, .s], [(0, 0, 18), (0, 2, 19), (2, 2, 20)]⟩], .callJ [1] false⟩,
      .base ⟨31, [.fact 14, .fact 18], [⟨.one (.lit (.cb true)), []⟩], .callJ [1] false⟩,
      .base ⟨34, [], [⟨.one (.lit (.cb true)), []⟩], false⟩]
def ins_path_s : List Out := [⟨.agg [.b, .s, .b, .s], [(0, 0, 0)]⟩, ⟨.one (.s), [(0, 0, 1)]⟩]
set_option maxRecDepth 100000 in
theorem path_s {a0 b0 : Bool} {xs0 ys0 : List Nat} {z0 u0 : Int} {qa qb : Nat → Bool} {qx qy : Nat → List Nat} {ez ey : Nat → Int} {n0 n : Nat} (hz0 : sg a0 (Proofs.YtjakllpnbeagjaaGreatDoor.val 4294967296 (xs0.take 3)) = z0) (hu0 : sg b0 (Proofs.YtjakllpnbeagjaaGreatDoor.val 4294967296 (ys0.take 3)) = u0) (hez : ∀ j, sg (qa j) (Proofs.YtjakllpnbeagjaaGreatDoor.val 4294967296 ((qx j).take 3)) = ez j) (hey : ∀ j, sg (qb j) (Proofs.YtjakllpnbeagjaaGreatDoor.val 4294967296 ((qy j).take 3)) = ey j) (hn : n ≤ 6) (_ : n ≤ n0) (h : n = n0) : SiteOk (ph (b_path_s a0 b0 xs0 ys0 z0 u0 qa qb qx qy ez ey n0 n)) Tryz.prog ⟨8, [.fact 0, .fact 1], [⟨.one (.lit (.cb true)), []⟩], false⟩ :=
  fn_okL ins_path_s [⟨.one (.lit (.cb true)), []⟩] ss_path_s Tryz.func8 (by kernel_rfl)
    (lbase (sOfQ 3 rfl (fun _ _ h => h) rfl rfl rfl rfl rfl rfl rfl (by omega) hz0 hu0)
      (lbase (tOfR (z := 0) (y := 1) rfl rfl rfl (by decide) (by decide) (by decide) (by decide) rfl)
      (lloop (counted n (fun j => ph (b_path_s a0 b0 xs0 ys0 z0 u0 qa qb qx qy ez ey n0 n ++ l_path_s z0 u0 qa qb qx qy ez ey n0 j)) (fun j => if cmpQ (qOf (ez j) (ey j)) (qOf (mxN z0 u0 ez ey j).1 (mxN z0 u0 ez ey j).2) > 0 then 0 else 1) (fun j p hp => ph_app (show p < (b_path_s a0 b0 xs0 ys0 z0 u0 qa qb qx qy ez ey n0 n).length from hp)) ⟨fun _ => rfl, fun w => ArrO.nil 4 46 (fun i w v => QV w v (ez i) (ey i) 3) w, fun _ _ _ => trivial, fun _ _ h => DecQ.eq h qOf01, fun _ _ h => h, trivial⟩ (fun j hj => by
      by_cases hc : cmpQ (qOf (ez j) (ey j)) (qOf (mxN z0 u0 ez ey j).1 (mxN z0 u0 ez ey j).2) > 0
      · exact ⟨(r_path_s_0, [.from 41, .from 36, .from 0, .from 37, .from 33]), by rw [if_pos hc]; rfl, ⟨fun _ _ h => h, fun _ _ h => h, fun _ _ _ => trivial, fun _ _ h => h, fun _ _ h => by
          show DecQ _ _ (qOf (mxN z0 u0 ez ey (j + 1)).1 (mxN z0 u0 ez ey (j + 1)).2) _
          rw [mxN, if_pos hc]; exact h, trivial⟩, (lbase (qLen (sz := 4) (n := n0) (F := (fun i w v => RawQ w v (qa i) (qx i) (qb i) (qy i))) Tryz.underlying57 (fun _ _ h => h) rfl)
      (lbase (qTest (op := .lss) (fun _ _ h => h) (fun _ _ h => h) (tst_run (decide_eq_true (by omega)) (by simp)))
      (lbase (qTestN (op := .lss) (fun _ _ h => h) (tst_run (decide_eq_true (by omega)) (by simp)))
      (lbase (qIdx (i := j) (sz := 4) (n := n0) (F := (fun i w v => RawQ w v (qa i) (qx i) (qb i) (qy i))) Tryz.underlying57 (by kernel_rfl) (fun _ _ h => h) (fun _ _ h => h) (by omega) rfl)
      (lbase (qLoad (sz := 4) (F := fun w v => RawQ w v (qa j) (qx j) (qb j) (qy j)) (by kernel_rfl) (by kernel_rfl) (fun _ _ h => h) (fun _ _ _ g h => RawQ.kp h g) (fun _ _ h => RawQ.is h) rfl)
      (lbase (sOfQ 3 rfl (fun _ _ h => h) rfl rfl rfl rfl rfl rfl rfl (by omega) (hez j) (hey j))
      (lbase (qAppQ (F := (fun i w v => QV w v (ez i) (ey i) 3)) (fun _ _ _ _ g h => QV.kp h g) (fun _ _ h => h) (fun _ _ h => h) (fun _ _ h => QV.cells h) (by omega) rfl)
      (lbase (tAddR tS tS rfl rfl rfl (by have := sK_le (j := j) (by omega); omega) rfl)
      (lbase (tCmpRJ tS tS (by omega) rfl)
      (lbase (qTestN (op := .gtr) (fun _ _ h => h) (tst_run (decide_eq_true hc) (by simp)))
      (lbase (qAddC' (fun _ _ h => h) (by omega) rfl (by omega) (by omega))
      lnil)))))))))))⟩
      · exact ⟨(r_path_s_1, [.from 57, .from 52, .from 0, .from 53, .from 25]), by rw [if_neg hc]; rfl, ⟨fun _ _ h => h, fun _ _ h => h, fun _ _ _ => trivial, fun _ _ h => h, fun _ _ h => by
          show DecQ _ _ (qOf (mxN z0 u0 ez ey (j + 1)).1 (mxN z0 u0 ez ey (j + 1)).2) _
          rw [mxN, if_neg hc]; exact h, trivial⟩, (lbase (qLen (sz := 4) (n := n0) (F := (fun i w v => RawQ w v (qa i) (qx i) (qb i) (qy i))) Tryz.underlying57 (fun _ _ h => h) rfl)
      (lbase (qTest (op := .lss) (fun _ _ h => h) (fun _ _ h => h) (tst_run (decide_eq_true (by omega)) (by simp)))
      (lbase (qTestN (op := .lss) (fun _ _ h => h) (tst_run (decide_eq_true (by omega)) (by simp)))
      (lbase (qIdx (i := j) (sz := 4) (n := n0) (F := (fun i w v => RawQ w v (qa i) (qx i) (qb i) (qy i))) Tryz.underlying57 (by kernel_rfl) (fun _ _ h => h) (fun _ _ h => h) (by omega) rfl)
      (lbase (qLoad (sz := 4) (F := fun w v => RawQ w v (qa j) (qx j) (qb j) (qy j)) (by kernel_rfl) (by kernel_rfl) (fun _ _ h => h) (fun _ _ _ g h => RawQ.kp h g) (fun _ _ h => RawQ.is h) rfl)
      (lbase (sOfQ 3 rfl (fun _ _ h => h) rfl rfl rfl rfl rfl rfl rfl (by omega) (hez j) (hey j))
      (lbase (qAppQ (F := (fun i w v => QV w v (ez i) (ey i) 3)) (fun _ _ _ _ g h => QV.kp h g) (fun _ _ h => h) (fun _ _ h => h) (fun _ _ h => QV.cells h) (by omega) rfl)
      (lbase (tAddR tS tS rfl rfl rfl (by have := sK_le (j := j) (by omega); omega) rfl)
      (lbase (tCmpRJ tS tS (by omega) rfl)
      (lbase (qTestN (op := .gtr) (fun _ _ h => h) (tst_run (decide_eq_false hc) (by simp)))
      (lbase (qAddC' (fun _ _ h => h) (by omega) rfl (by omega) (by omega))
      lnil)))))))))))⟩)
      (lbase (qLen (sz := 4) (n := n0) (F := (fun i w v => RawQ w v (qa i) (qx i) (qb i) (qy i))) Tryz.underlying57 (fun _ _ h => h) rfl)
      (lbase (qTest (op := .lss) (fun _ _ h => h) (fun _ _ h => h) (tst_run (decide_eq_false (by omega)) (by simp)))
      lnil))
      (fun q hq w v h => by
        simp only [d_path_s, List.mem_cons, List.not_mem_nil, or_false] at hq
        rcases hq with rfl | rfl | rfl <;> exact h)) (lbase (onJ [1] (sSumA (ez := ez) (ey := ey) (K := 3) (n := n) (fun _ _ h => ArrO.arr h) rfl rfl rfl (by omega) (fun j hj => by have := smK_le (j := j) (by omega); omega) rfl))
      (lbase (onJ [1] (sIs tS pP (by have := sK_le (j := n) (by omega); omega) rfl rfl))
      (lbase (onJ [1] (sMaxA (ez := ez) (ey := ey) (K := 3) (n := n) (fun _ _ h => h) (fun _ _ h => ArrO.arr h) rfl rfl rfl (by omega) (by omega) rfl))
      (lbase (onJ [1] (sIs tS pP (by have := sK_le (j := n) (by omega); omega) rfl rfl))
      (lbase (sWakes4)
      lnil))))))))
    (ins_ok [.fact 0 (.agg [.b, .s, .b, .s]), .fact 1 (.one (.s))] ⟨fun _ _ h => RawQ.is h, fun _ _ h => Arr.is (sz := 4) (n := n0) (F := (fun i w v => RawQ w v (qa i) (qx i) (qb i) (qy i))) h, trivial⟩) (fun _ _ _ h => h)

def b_path_l (a0 b0 : Bool) (xs0 ys0 : List Nat) (z0 u0 : Int) (qa qb : Nat → Bool) (qx qy : Nat → List Nat) (ez ey : Nat → Int) (n0 n : Nat) : List (World → Value → Prop) := [fun w v => RawQ w v a0 xs0 b0 ys0, fun w v => Arr 4 (fun i w v => RawQ w v (qa i) (qx i) (qb i) (qy i)) n0 w v, fun w v => RawQ w v a0 (xs0.take 3) b0 (ys0.take 3), fun w v => QV w v z0 u0 3, fun w v => IntV w v z0 3, fun w v => IntV w v u0 3, fun w v => DecQ w v (qOf z0 u0) (2 * 3 + 2), fun w v => DecI w v ((qOf z0 u0).num) (2 * 3 + 2), fun w v => DecI w v ((qOf z0 u0).den : Int) (2 * 3 + 2), fun w v => DecQ w v (qOf 0 1) 6, fun w v => DecI w v ((qOf 0 1).num) 6, fun w v => DecI w v ((qOf 0 1).den : Int) 6, fun w v => ArrO 4 46 (fun i w v => QV w v (ez i) (ey i) 3) n w v, fun w v => DecQ w v (smQ ez ey n) (sK n), fun w v => DecQ w v (qOf (mxN z0 u0 ez ey n).1 (mxN z0 u0 ez ey n).2) (2 * 3 + 2), fun w v => NorQ w v (smQ ez ey n) (smK 3 n), fun w v => NorV w v ((smQ ez ey n).num) (smK 3 n), fun w v => NorV w v ((smQ ez ey n).den : Int) (smK 3 n), fun w v => NorQ w v (qOf (mxN z0 u0 ez ey n).1 (mxN z0 u0 ez ey n).2) (3 + 2), fun w v => NorV w v ((qOf (mxN z0 u0 ez ey n).1 (mxN z0 u0 ez ey n).2).num) (3 + 2), fun w v => NorV w v ((qOf (mxN z0 u0 ez ey n).1 (mxN z0 u0 ez ey n).2).den : Int) (3 + 2)]
def l_path_l (z0 u0 : Int) (qa qb : Nat → Bool) (qx qy : Nat → List Nat) (ez ey : Nat → Int) (n0 : Nat) (j : Nat) : List (World → Value → Prop) := [fun _ v => v = .int .i64 (j : Int), fun w v => ArrO 4 46 (fun i w v => QV w v (ez i) (ey i) 3) j w v, fun _ _ => True, fun w v => DecQ w v (smQ ez ey j) (sK j), fun w v => DecQ w v (qOf (mxN z0 u0 ez ey j).1 (mxN z0 u0 ez ey j).2) (2 * 3 + 2), fun _ v => v = .int .i64 (n0 : Int), fun w v => Ptr 4 (fun w v => RawQ w v (qa j) (qx j) (qb j) (qy j)) w v, fun w v => RawQ w v (qa j) (qx j) (qb j) (qy j), fun w v => RawQ w v (qa j) ((qx j).take 3) (qb j) ((qy j).take 3), fun w v => QV w v (ez j) (ey j) 3, fun w v => IntV w v (ez j) 3, fun w v => IntV w v (ey j) 3, fun w v => DecQ w v (qOf (ez j) (ey j)) (2 * 3 + 2), fun w v => DecI w v ((qOf (ez j) (ey j)).num) (2 * 3 + 2), fun w v => DecI w v ((qOf (ez j) (ey j)).den : Int) (2 * 3 + 2), fun w v => ArrO 4 46 (fun i w v => QV w v (ez i) (ey i) 3) (j + 1) w v, fun w v => DecQ w v (smQ ez ey (j + 1)) (sK (j + 1)), fun w v => DecI w v ((smQ ez ey (j + 1)).num) (sK (j + 1)), fun w v => DecI w v ((smQ ez ey (j + 1)).den : Int) (sK (j + 1)), fun _ v => v = .int .i64 (cmpQ (qOf (ez j) (ey j)) (qOf (mxN z0 u0 ez ey j).1 (mxN z0 u0 ez ey j).2)), fun _ v => v = .int .i64 ((j + 1 : Nat) : Int), fun _ v => v = .int .i64 (n0 : Int), fun w v => Ptr 4 (fun w v => RawQ w v (qa j) (qx j) (qb j) (qy j)) w v, fun w v => RawQ w v (qa j) (qx j) (qb j) (qy j), fun w v => RawQ w v (qa j) ((qx j).take 3) (qb j) ((qy j).take 3), fun w v => QV w v (ez j) (ey j) 3, fun w v => IntV w v (ez j) 3, fun w v => IntV w v (ey j) 3, fun w v => DecQ w v (qOf (ez j) (ey j)) (2 * 3 + 2), fun w v => DecI w v ((qOf (ez j) (ey j)).num) (2 * 3 + 2), fun w v => DecI w v ((qOf (ez j) (ey j)).den : Int) (2 * 3 + 2), fun w v => ArrO 4 46 (fun i w v => QV w v (ez i) (ey i) 3) (j + 1) w v, fun w v => DecQ w v (smQ ez ey (j + 1)) (sK (j + 1)), fun w v => DecI w v ((smQ ez ey (j + 1)).num) (sK (j + 1)), fun w v => DecI w v ((smQ ez ey (j + 1)).den : Int) (sK (j + 1)), fun _ v => v = .int .i64 (cmpQ (qOf (ez j) (ey j)) (qOf (mxN z0 u0 ez ey j).1 (mxN z0 u0 ez ey j).2)), fun _ v => v = .int .i64 ((j + 1 : Nat) : Int), fun _ v => v = .int .i64 (n0 : Int)]
def d_path_l : LoopD := ⟨[0, 1, 2, 4, 5, 6, 7, 12, 13, 14, 15, 16, 17, 18], [(.slot 9, .i), (.slot 8, .s), (.cell 13 0, .s), (.cell 13 1, .b), (.cell 13 2, .s), (.cell 13 3, .b), (.cell 14 0, .s), (.cell 14 1, .b), (.cell 14 2, .s), (.cell 14 3, .b)], [(.one 0, 21), (.one 1, .at [1] 22), (.one 1, .lo 1), (.agg [2, 3, 4, 5], 24), (.agg [6, 7, 8, 9], 25)], [.closed (.one (.ci .i64 0)), .closed (.one (.nl)), .from 0, .from 9, .from 6], 21, [(22, 12), (24, 13), (25, 14)]⟩
def r_path_l_0 : List Step := [.base ⟨0, [.fact 1], [⟨.one (.i), [(0, 0, 26)]⟩], .quiet (mLen 57)⟩,
      .base ⟨0, [.fact 21, .fact 26], [⟨.one (.lit (.cb true)), []⟩], .quiet (mBin .lss)⟩,
      .base ⟨0, [.fact 21, .lit (.ci .i64 6)], [⟨.one (.lit (.cb true)), []⟩], .quiet (mBin .lss)⟩,
      .base ⟨0, [.fact 1, .fact 21], [⟨.one (.p), [(0, 0, 27)]⟩], .quiet (mIdx 57)⟩,
      .base ⟨0, [.fact 27], [⟨.agg [.b, .s, .b, .s], [(0, 0, 28)]⟩], .quiet (mLoad 46)⟩,
      .base ⟨27, [.fact 28, .lit (.ci .i64 3)], [⟨.agg [.b, .s, .b, .s], [(0, 0, 29), (0, 0, 30), (0, 2, 31), (2, 2, 32)]⟩, ⟨.agg [.s, .b, .s, .b], [(0, 0, 33), (0, 2, 34), (2, 2, 35)]⟩], true⟩,
      .base ⟨0, [.fact 22, .row 4 [30]], [⟨.one (.s), [(0, 0, 36)]⟩], .loose [] 1 0 (mApp 57 57)⟩,
      .base ⟨29, [.fact 24, .fact 33], [⟨.agg [.s, .b, .s, .b], [(0, 0, 37), (0, 2, 38), (2, 2, 39)]⟩], false⟩,
      .base ⟨30, [.fact 33, .fact 25], [⟨.one (.i), [(0, 0, 40)]⟩], false⟩,
      .base ⟨0, [.fact 40, .lit (.ci .i64 0)], [⟨.one (.lit (.cb true)), []⟩], .quiet (mBin .gtr)⟩,
      .base ⟨0, [.fact 21, .lit (.ci .i64 1)], [⟨.one (.i), [(0, 0, 41)]⟩], .quiet (mBin .add)⟩]
def r_path_l_1 : List Step := [.base ⟨0, [.fact 1], [⟨.one (.i), [(0, 0, 42)]⟩], .quiet (mLen 57)⟩,
      .base ⟨0, [.fact 21, .fact 42], [⟨.one (.lit (.cb true)), []⟩], .quiet (mBin .lss)⟩,
      .base ⟨0, [.fact 21, .lit (.ci .i64 6)], [⟨.one (.lit (.cb true)), []⟩], .quiet (mBin .lss)⟩,
      .base ⟨0, [.fact 1, .fact 21], [⟨.one (.p), [(0, 0, 43)]⟩], .quiet (mIdx 57)⟩,
      .base ⟨0, [.fact 43], [⟨.agg [.b, .s, .b, .s], [(0, 0, 44)]⟩], .quiet (mLoad 46)⟩,
      .base ⟨27, [.fact 44, .lit (.ci .i64 3)], [⟨.agg [.b, .s, .b, .s], [(0, 0, 45), (0, 0, 46), (0, 2, 47), (2, 2, 48)]⟩, ⟨.agg [.s, .b, .s, .b], [(0, 0, 49), (0, 2, 50), (2, 2, 51)]⟩], true⟩,
      .base ⟨0, [.fact 22, .row 4 [46]], [⟨.one (.s), [(0, 0, 52)]⟩], .loose [] 1 0 (mApp 57 57)⟩,
      .base ⟨29, [.fact 24, .fact 49], [⟨.agg [.s, .b, .s, .b], [(0, 0, 53), (0, 2, 54), (2, 2, 55)]⟩], false⟩,
      .base ⟨30, [.fact 49, .fact 25], [⟨.one (.i), [(0, 0, 56)]⟩], false⟩,
      .base ⟨0, [.fact 56, .lit (.ci .i64 0)], [⟨.one (.lit (.cb false)), []⟩], .quiet (mBin .gtr)⟩,
      .base ⟨0, [.fact 21, .lit (.ci .i64 1)], [⟨.one (.i), [(0, 0, 57)]⟩], .quiet (mBin .add)⟩]
def o_path_l : List Step := [.base ⟨0, [.fact 1], [⟨.one (.i), [(0, 0, 58)]⟩], .quiet (mLen 57)⟩,
      .base ⟨0, [.fact 21, .fact 58], [⟨.one (.lit (.cb true)), []⟩], .quiet (mBin .lss)⟩,
      .base ⟨0, [.fact 21, .lit (.ci .i64 6)], [⟨.one (.lit (.cb false)), []⟩], .quiet (mBin .lss)⟩]
def ss_path_l : List Step := [.base ⟨27, [.fact 0, .lit (.ci .i64 3)], [⟨.agg [.b, .s, .b, .s], [(0, 0, 2), (0, 0, 3), (0, 2, 4), (2, 2, 5)]⟩, ⟨.agg [.s, .b, .s, .b], [(0, 0, 6), (0, 2, 7), (2, 2, 8)]⟩], true⟩,
      .base ⟨28, [.lit (.ci .i64 0), .lit (.ci .i64 1)], [⟨.agg [.s, .b, .s, .b], [(0, 0, 9), (0, 2, 10), (2, 2, 11)]⟩], false⟩,
      .loop d_path_l [(r_path_l_0, [.from 41, .from 36, .from 0, .from 37, .from 33]), (r_path_l_1, [.from 57, .from 52, .from 0, .from 53, .from 25])] o_path_l,
      .base ⟨32, [.fact 12], [⟨.agg [.b, .s, .b, .s], [(0, 0, 15), (0, 2, 16), (2, 2, 17)]⟩], .callJ [1] false⟩,
      .base ⟨31, [.fact 13, .fact 15], [⟨.one (.lit (.cb true)), []⟩], .callJ [1] false⟩,
      .base ⟨33, [.fact 3, .fact 12], [⟨.agg [.b, .s, .b, .s], [(0, 0, 18), (0, 2, 19), (2, 2, 20)]⟩], .callJ [1] false⟩,
      .base ⟨31, [.fact 14, .fact 18], [⟨.one (.lit (.cb true)), []⟩], .callJ [1] false⟩,
      .base ⟨34, [], [⟨.one (.lit (.cb true)), []⟩], false⟩]
def ins_path_l : List Out := [⟨.agg [.b, .s, .b, .s], [(0, 0, 0)]⟩, ⟨.one (.s), [(0, 0, 1)]⟩]
set_option maxRecDepth 100000 in
theorem path_l {a0 b0 : Bool} {xs0 ys0 : List Nat} {z0 u0 : Int} {qa qb : Nat → Bool} {qx qy : Nat → List Nat} {ez ey : Nat → Int} {n0 n : Nat} (hz0 : sg a0 (Proofs.YtjakllpnbeagjaaGreatDoor.val 4294967296 (xs0.take 3)) = z0) (hu0 : sg b0 (Proofs.YtjakllpnbeagjaaGreatDoor.val 4294967296 (ys0.take 3)) = u0) (hez : ∀ j, sg (qa j) (Proofs.YtjakllpnbeagjaaGreatDoor.val 4294967296 ((qx j).take 3)) = ez j) (hey : ∀ j, sg (qb j) (Proofs.YtjakllpnbeagjaaGreatDoor.val 4294967296 ((qy j).take 3)) = ey j) (hn : n ≤ 6) (_ : n ≤ n0) (h : n = 6) (h6 : 6 < n0) : SiteOk (ph (b_path_l a0 b0 xs0 ys0 z0 u0 qa qb qx qy ez ey n0 n)) Tryz.prog ⟨8, [.fact 0, .fact 1], [⟨.one (.lit (.cb true)), []⟩], false⟩ :=
  fn_okL ins_path_l [⟨.one (.lit (.cb true)), []⟩] ss_path_l Tryz.func8 (by kernel_rfl)
    (lbase (sOfQ 3 rfl (fun _ _ h => h) rfl rfl rfl rfl rfl rfl rfl (by omega) hz0 hu0)
      (lbase (tOfR (z := 0) (y := 1) rfl rfl rfl (by decide) (by decide) (by decide) (by decide) rfl)
      (lloop (counted n (fun j => ph (b_path_l a0 b0 xs0 ys0 z0 u0 qa qb qx qy ez ey n0 n ++ l_path_l z0 u0 qa qb qx qy ez ey n0 j)) (fun j => if cmpQ (qOf (ez j) (ey j)) (qOf (mxN z0 u0 ez ey j).1 (mxN z0 u0 ez ey j).2) > 0 then 0 else 1) (fun j p hp => ph_app (show p < (b_path_l a0 b0 xs0 ys0 z0 u0 qa qb qx qy ez ey n0 n).length from hp)) ⟨fun _ => rfl, fun w => ArrO.nil 4 46 (fun i w v => QV w v (ez i) (ey i) 3) w, fun _ _ _ => trivial, fun _ _ h => DecQ.eq h qOf01, fun _ _ h => h, trivial⟩ (fun j hj => by
      by_cases hc : cmpQ (qOf (ez j) (ey j)) (qOf (mxN z0 u0 ez ey j).1 (mxN z0 u0 ez ey j).2) > 0
      · exact ⟨(r_path_l_0, [.from 41, .from 36, .from 0, .from 37, .from 33]), by rw [if_pos hc]; rfl, ⟨fun _ _ h => h, fun _ _ h => h, fun _ _ _ => trivial, fun _ _ h => h, fun _ _ h => by
          show DecQ _ _ (qOf (mxN z0 u0 ez ey (j + 1)).1 (mxN z0 u0 ez ey (j + 1)).2) _
          rw [mxN, if_pos hc]; exact h, trivial⟩, (lbase (qLen (sz := 4) (n := n0) (F := (fun i w v => RawQ w v (qa i) (qx i) (qb i) (qy i))) Tryz.underlying57 (fun _ _ h => h) rfl)
      (lbase (qTest (op := .lss) (fun _ _ h => h) (fun _ _ h => h) (tst_run (decide_eq_true (by omega)) (by simp)))
      (lbase (qTestN (op := .lss) (fun _ _ h => h) (tst_run (decide_eq_true (by omega)) (by simp)))
      (lbase (qIdx (i := j) (sz := 4) (n := n0) (F := (fun i w v => RawQ w v (qa i) (qx i) (qb i) (qy i))) Tryz.underlying57 (by kernel_rfl) (fun _ _ h => h) (fun _ _ h => h) (by omega) rfl)
      (lbase (qLoad (sz := 4) (F := fun w v => RawQ w v (qa j) (qx j) (qb j) (qy j)) (by kernel_rfl) (by kernel_rfl) (fun _ _ h => h) (fun _ _ _ g h => RawQ.kp h g) (fun _ _ h => RawQ.is h) rfl)
      (lbase (sOfQ 3 rfl (fun _ _ h => h) rfl rfl rfl rfl rfl rfl rfl (by omega) (hez j) (hey j))
      (lbase (qAppQ (F := (fun i w v => QV w v (ez i) (ey i) 3)) (fun _ _ _ _ g h => QV.kp h g) (fun _ _ h => h) (fun _ _ h => h) (fun _ _ h => QV.cells h) (by omega) rfl)
      (lbase (tAddR tS tS rfl rfl rfl (by have := sK_le (j := j) (by omega); omega) rfl)
      (lbase (tCmpRJ tS tS (by omega) rfl)
      (lbase (qTestN (op := .gtr) (fun _ _ h => h) (tst_run (decide_eq_true hc) (by simp)))
      (lbase (qAddC' (fun _ _ h => h) (by omega) rfl (by omega) (by omega))
      lnil)))))))))))⟩
      · exact ⟨(r_path_l_1, [.from 57, .from 52, .from 0, .from 53, .from 25]), by rw [if_neg hc]; rfl, ⟨fun _ _ h => h, fun _ _ h => h, fun _ _ _ => trivial, fun _ _ h => h, fun _ _ h => by
          show DecQ _ _ (qOf (mxN z0 u0 ez ey (j + 1)).1 (mxN z0 u0 ez ey (j + 1)).2) _
          rw [mxN, if_neg hc]; exact h, trivial⟩, (lbase (qLen (sz := 4) (n := n0) (F := (fun i w v => RawQ w v (qa i) (qx i) (qb i) (qy i))) Tryz.underlying57 (fun _ _ h => h) rfl)
      (lbase (qTest (op := .lss) (fun _ _ h => h) (fun _ _ h => h) (tst_run (decide_eq_true (by omega)) (by simp)))
      (lbase (qTestN (op := .lss) (fun _ _ h => h) (tst_run (decide_eq_true (by omega)) (by simp)))
      (lbase (qIdx (i := j) (sz := 4) (n := n0) (F := (fun i w v => RawQ w v (qa i) (qx i) (qb i) (qy i))) Tryz.underlying57 (by kernel_rfl) (fun _ _ h => h) (fun _ _ h => h) (by omega) rfl)
      (lbase (qLoad (sz := 4) (F := fun w v => RawQ w v (qa j) (qx j) (qb j) (qy j)) (by kernel_rfl) (by kernel_rfl) (fun _ _ h => h) (fun _ _ _ g h => RawQ.kp h g) (fun _ _ h => RawQ.is h) rfl)
      (lbase (sOfQ 3 rfl (fun _ _ h => h) rfl rfl rfl rfl rfl rfl rfl (by omega) (hez j) (hey j))
      (lbase (qAppQ (F := (fun i w v => QV w v (ez i) (ey i) 3)) (fun _ _ _ _ g h => QV.kp h g) (fun _ _ h => h) (fun _ _ h => h) (fun _ _ h => QV.cells h) (by omega) rfl)
      (lbase (tAddR tS tS rfl rfl rfl (by have := sK_le (j := j) (by omega); omega) rfl)
      (lbase (tCmpRJ tS tS (by omega) rfl)
      (lbase (qTestN (op := .gtr) (fun _ _ h => h) (tst_run (decide_eq_false hc) (by simp)))
      (lbase (qAddC' (fun _ _ h => h) (by omega) rfl (by omega) (by omega))
      lnil)))))))))))⟩)
      (lbase (qLen (sz := 4) (n := n0) (F := (fun i w v => RawQ w v (qa i) (qx i) (qb i) (qy i))) Tryz.underlying57 (fun _ _ h => h) rfl)
      (lbase (qTest (op := .lss) (fun _ _ h => h) (fun _ _ h => h) (tst_run (decide_eq_true (by omega)) (by simp)))
      (lbase (qTestN (op := .lss) (fun _ _ h => h) (tst_run (decide_eq_false (by omega)) (by simp)))
      lnil)))
      (fun q hq w v h => by
        simp only [d_path_l, List.mem_cons, List.not_mem_nil, or_false] at hq
        rcases hq with rfl | rfl | rfl <;> exact h)) (lbase (onJ [1] (sSumA (ez := ez) (ey := ey) (K := 3) (n := n) (fun _ _ h => ArrO.arr h) rfl rfl rfl (by omega) (fun j hj => by have := smK_le (j := j) (by omega); omega) rfl))
      (lbase (onJ [1] (sIs tS pP (by have := sK_le (j := n) (by omega); omega) rfl rfl))
      (lbase (onJ [1] (sMaxA (ez := ez) (ey := ey) (K := 3) (n := n) (fun _ _ h => h) (fun _ _ h => ArrO.arr h) rfl rfl rfl (by omega) (by omega) rfl))
      (lbase (onJ [1] (sIs tS pP (by have := sK_le (j := n) (by omega); omega) rfl rfl))
      (lbase (sWakes4)
      lnil))))))))
    (ins_ok [.fact 0 (.agg [.b, .s, .b, .s]), .fact 1 (.one (.s))] ⟨fun _ _ h => RawQ.is h, fun _ _ h => Arr.is (sz := 4) (n := n0) (F := (fun i w v => RawQ w v (qa i) (qx i) (qb i) (qy i))) h, trivial⟩) (fun _ _ _ h => h)
theorem walk {a0 b0 : Bool} {s0 t0 l0 : Value} {xs0 ys0 : List Nat} {w : World} (hx0 : Sl w .u32 s0 xs0) (ax0 : All 4294967296 xs0) (hy0 : Sl w .u32 t0 ys0) (ay0 : All 4294967296 ys0) {qa qb : Nat → Bool} {qx qy : Nat → List Nat} {n0 : Nat} (hl : Arr 4 (fun i w v => RawQ w v (qa i) (qx i) (qb i) (qy i)) n0 w l0) : Calls Tryz.prog 8 #[.agg #[.bool a0, s0, .bool b0, t0], l0] w (Bool_ w true) := by
  by_cases h : n0 ≤ 6
  · exact law_true (path_s (qa := qa) (qb := qb) (qx := qx) (qy := qy) (n0 := n0) (n := n0) rfl rfl (fun _ => rfl) (fun _ => rfl) h (Nat.le_refl _) rfl) (vs := [.agg #[.bool a0, s0, .bool b0, t0], l0]) ⟨arg_kp rfl (fun _ _ _ g h => RawQ.kp h g) ⟨_, _, rfl, hx0, ax0, hy0, ay0⟩, arg_arr (sz := 4) (n := n0) (F := (fun i w v => RawQ w v (qa i) (qx i) (qb i) (qy i))) (fun _ _ _ _ g h => RawQ.kp h g) hl, trivial⟩
  · exact law_true (path_l (qa := qa) (qb := qb) (qx := qx) (qy := qy) (n0 := n0) (n := 6) rfl rfl (fun _ => rfl) (fun _ => rfl) (Nat.le_refl _) (by omega) rfl (by omega)) (vs := [.agg #[.bool a0, s0, .bool b0, t0], l0]) ⟨arg_kp rfl (fun _ _ _ g h => RawQ.kp h g) ⟨_, _, rfl, hx0, ax0, hy0, ay0⟩, arg_arr (sz := 4) (n := n0) (F := (fun i w v => RawQ w v (qa i) (qx i) (qb i) (qy i))) (fun _ _ _ _ g h => RawQ.kp h g) hl, trivial⟩
set_option maxRecDepth 100000 in
theorem lifted (os : Os) (started : os.Started) (H : Type) (enc : TypeId × Value → H) :
    ReturnsInHanded {} Tryz.checked os 8 .any (fun w args => (Rows.ratioAllsSpec.pre enc Tryz.prog Tryz.f8 [] false w args ∧ laidMetH Tryz.prog Rows.ratioAllsRow.laid w) ∧ sizedMet enc Tryz.prog Tryz.f8 (OpenSpec.ofChange Rows.ratioAllsSpec) false w args) (Rows.ratioAllsSpec.post enc Tryz.prog Tryz.f8 false true false false) := by
  refine returnsInHanded_of_change_and (C := Tryz.checked) (X := fun w _ => laidMetH Tryz.prog Rows.ratioAllsRow.laid w) (fun _ _ _ hh h => h.of_heap hh) Tryz.own started (by kernel_rfl) Tryz.func8
    (ChangeSpec.witness_at (enc := enc) (C := Tryz.checked) (os := os) (X := fun w _ => laidMetH Tryz.prog Rows.ratioAllsRow.laid w) false (World.laidAll Tryz.prog os Rows.ratioAllsRow.laid) #[.agg #[.bool false, .slice none 0 0, .bool false, .slice none 0 0], .slice none 0 0] 8 (World.laidAll_os _ _ _) (by kernel_rfl) (by kernel_rfl) (by kernel_rfl) (by kernel_rfl) (by kernel_rfl)
      (by rw [MakeChecks.laidMetH_plain _ _ _ (by kernel_rfl)]; exact laidMet_laidAll _ (by kernel_rfl) (by kernel_rfl))) ?_
  intro W base args ds gs before hval0 hW _ _ _ _
  have hval : ∀ (j : Nat) t v, Tryz.f8.params[j]? = some t → args[j]? = some v → Value.okWide Tryz.prog W .any base t v := hval0
  obtain ⟨p, q, hA0, hV, rfl, _, _⟩ := id hW
  have hA : DataW.TrodAll enc Tryz.prog W 0 (fun _ => true) true Tryz.f8.params.toList args.toList ds p := hA0
  rw [Tryz.params8] at hA hval
  obtain ⟨v0, vs0, d0, ds0, p0, q0, hargs, rfl, rfl, h0, r0⟩ := trodAll_cons hA
  obtain ⟨v1, vs1, d1, ds1, p1, q1, rfl, rfl, rfl, h1, r1⟩ := trodAll_cons r0
  obtain ⟨rfl, rfl, rfl⟩ := trodAll_nil r1
  obtain rfl : args = #[v0, v1] := by cases args; simp_all
  obtain ⟨b0, w0, b0', w0', xs0, ys0, rfl, s0, a0, s0', a0'⟩ := rat_of_trod h0 (hval 0 46 v0 rfl rfl)
  obtain ⟨n1, qa1, qb1, qx1, qy1, s1⟩ := rats_of_trod h1 (hval 1 57 v1 rfl rfl)
  refine (walk s0 a0 s0' a0' s1).mono fun e W' ⟨he, hg⟩ => ?_
  subst he
  refine ⟨_, rfl, law_post Tryz.laidOut rfl (by kernel_rfl) Tryz.underlying4 ?_ ?_ hW hg⟩
  · rw [Tryz.params8]; decide +kernel
  · rw [Tryz.params8]
    intro ds h
    match ds, h with
    | [_, _], _ => rfl

theorem row_holds : Rows.RatioAllsSaid :=
  OpenClaim.holds_of_wide 8 Tryz.f8 rfl rfl rfl rfl rfl rfl rfl ⟨rfl, rfl, rfl, rfl, rfl⟩ rfl rfl rfl rfl rfl (by kernel_rfl) Tryz.func8 (by kernel_rfl)
    (of_decide_eq_true (by kernel_rfl)) (by unfold Func.isWrapper; first | (rw [if_pos (by decide +kernel)]; kernel_rfl) | (rw [if_neg (by decide +kernel)]; exact ⟨rfl, rfl⟩))
    (fun os started H enc _ => lifted os started H enc)
theorem holds : Rows.RatioAllsCardSaid :=
  Claim7.holds_tied_plain_at .later [] Rows.ratioAllsCard.laidKinds true Rows.ratioAllsCard.stood.harness true
    row_holds (fun _ h => by cases h) (by kernel_rfl) (fun _ h => by cases h) ratioAlls_row_tie rfl ⟨rfl, rfl⟩ (by kernel_rfl) rfl
    (fun f fn hf hfn => by
      obtain rfl : f = 8 := Option.some.inj ((show Tryz.prog.funcNamed "orrery/orrerylaw04.RatioAlls" = some 8 by kernel_rfl).symm.trans hf) |>.symm
      obtain rfl : fn = Tryz.f8 := (Option.some.inj (Tryz.func8.symm.trans hfn)).symm
      exact ⟨by kernel_rfl, fun j t ht => by rw [Tryz.params8] at ht; exact stand_no t (by rcases j with _ | _ | _ | _ | _ | j <;> simp at ht <;> simp [← ht])⟩)
    (by kernel_rfl)

end Go.Proofs.YtjakllpnbeagjaaGreatDoor.ratioalls
