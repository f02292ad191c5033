/- WholeShapes holds: for every two whole numbers and every n the law returns true and leaves them as they were. No condition. -/
import Derived.Test.YtckhcijknfkghaaSymW
import Derived.Test.YtckhcijknfkghaaBx
namespace Go.Proofs.Ytckhcijknfkghaa.wshapes
open Go.ChangeShapes Go.WideShapes Go.ChangeAt Go.RowKit
open Go.Proofs.Ytckhcijknfkghaa.Sym hiding val run start
theorem cmpI_same (z : Int) : cmpI z z = 0 := by simp [cmpI]
theorem sg_zero {b : Bool} {x : Nat} {z : Int} (c : Bool) (h : sg b x = z) (h0 : z = 0) : sg c x = z := by
  subst h0
  cases b <;> cases c <;> simp [sg] at h ⊢ <;> exact h
theorem num_zeros {w : World} {v : Value} {xs : List Nat} {k x : Nat} (a : All 4294967296 xs) (hX : Proofs.Ytckhcijknfkghaa.val 4294967296 (xs.take 8) = x) (hk : k < 4) (h : ZRow w v (xs.take 8 ++ List.replicate k 0)) : Num w v x 11 := by
  have := Num.row h.sl ((a.take 8).app (All.rep (by omega) k)) 11 (by simp; omega)
  rwa [val_app, val_rep0, Nat.mul_zero, Nat.add_zero, hX] at this
theorem RawI.lit_is {w : World} {v : Value} {b : Bool} {xs : List Nat} (h : RawI w v b xs) : (CSh.agg [.lit (.cb b), .s]).is v := by
  obtain ⟨s, rfl, h2, _⟩ := h
  obtain ⟨p, c, rfl, _⟩ := h2
  exact ⟨[.bool b, .slice p _ c], rfl, rfl, ⟨_, _, _, rfl⟩, trivial⟩
def phi_copy (xs : List Nat) : List (World → Value → Prop) := [fun w v => Sl w .u32 v xs, fun w v => ZRow w v xs]
theorem copy_path {xs : List Nat} (hl : xs.length ≤ 17592186044415) : SiteOk (ph (phi_copy xs)) Try.prog ⟨5, [.fact 0], [⟨.one .s, [(0, 0, 1)]⟩], false⟩ :=
  fn_ok [⟨.one .s, [(0, 0, 0)]⟩] [⟨.one .s, [(0, 0, 1)]⟩] [⟨0, [.lit .nl, .fact 0], [⟨.one .s, [(0, 0, 1)]⟩], .quiet (mApp 22 22)⟩] Try.func5 (by kernel_rfl)
    (all_cons (qAppendNil (fun _ _ h => h) rfl hl) all_nil)
    (ins_ok [.fact 0 (.one .s)] ⟨fun _ _ h => by obtain ⟨p, c, rfl, _⟩ := (h : Sl _ .u32 _ xs); exact ⟨⟨_, _, _, rfl⟩, fun _ h => by cases h⟩, trivial⟩) (fun _ _ _ h => h)
section
variable {Φ : Nat → World → Value → Prop} {p q x x1 x2 i j : Nat}
theorem sCopyZ {xs : List Nat} (hp : ∀ w v, Φ p w v → Sl w .u32 v xs) (hx : Φ x = fun w v => ZRow w v xs) (hl : xs.length ≤ 17592186044415) : SiteOk Φ Try.prog ⟨5, [.fact p], [⟨.one .s, [(0, 0, x)]⟩], false⟩ := fun X w vs hX ha => by
  match vs, ha with
  | [v], ha =>
    refine (copy_path hl X w [v] hX ⟨fun w1 hw => hp _ _ (ha.1 w1 hw), trivial⟩).mono fun e w' ⟨hg, us, he, ho⟩ => ⟨hg, us, he, ?_⟩
    match us, ho with
    | [u], ho =>
      refine ⟨⟨ho.1.1, fun q hq w1 hw => ?_⟩, trivial⟩
      simp only [List.mem_singleton] at hq
      subst hq
      show Φ x w1 _
      rw [hx]; exact ho.1.2 (0, 0, 1) (List.mem_singleton.2 rfl) w1 hw
theorem wOf (k : Nat) {ki z : Int} {b : Bool} {xs : List Nat} {w : World} {v : Value} (hki : (k : Int) = ki) (h : RawI w v b xs) (hk : k ≤ 1000000) (hz : sg b (Proofs.Ytckhcijknfkghaa.val 4294967296 (xs.take k)) = z) :
    Calls Try.prog 4 #[v, .int .i64 ki] w fun e w' => w.grownBy w' none ∧ ∃ p n c p' n' c' b', e = .returned (.tuple #[.agg #[.bool b, .slice p n c], .agg #[.slice p' n' c', .bool b']]) ∧ Sl w' .u32 (.slice p n c) (xs.take k) ∧ ∀ w1, Kp w' w1 → IntV w1 (.agg #[.bool b, .slice p n c]) z k := by
  subst hki
  obtain ⟨s, rfl, a1, a2⟩ := h
  refine (Of_l k a1 a2 hk).mono fun e w' h => ?_
  obtain ⟨p, n, c, u, rfl, h1, h2, h3⟩ := h
  obtain ⟨p', c', rfl, -⟩ := id h2
  have h4 := h1.kp (Kp.of h3)
  exact ⟨h3, _, _, _, _, _, _, _, rfl, h4, fun w1 g => ⟨_, _, _, rfl, Num.row (h4.kp g) (a2.take k) k (by rw [List.length_take]; omega), hz.symm⟩⟩
theorem wOfL (k : Nat) {ki z : Int} {b : Bool} {xs : List Nat} (hki : (k : Int) = ki) (hp : ∀ w v, Φ p w v → RawI w v b xs) (hx : Φ x = fun w v => IntV w v z k) (hx1 : Φ x1 = fun w v => Sl w .u32 v (xs.take k)) (hk : k ≤ 1000000) (hz : sg b (Proofs.Ytckhcijknfkghaa.val 4294967296 (xs.take k)) = z) :
    SiteOk Φ Try.prog ⟨4, [.fact p, .lit (.ci .i64 ki)], [⟨.agg [.lit (.cb b), .s], [(0, 0, x), (1, 1, x1)]⟩, ⟨dS, []⟩], true⟩ :=
  site2 fun X w v u h0 h1 => by
    obtain rfl : u = .int .i64 ki := h1
    refine (wOf k hki (hp _ _ (get h0)) hk hz).mono fun e w' h => ?_
    obtain ⟨hg, p', n, c, p2, n2, c2, b2, rfl, h2, h3⟩ := h
    refine ⟨hg, [_, _], rfl, ⟨⟨[.bool b, .slice p' n c], rfl, rfl, ⟨_, _, _, rfl⟩, trivial⟩, fun q hq w1 hw => ?_⟩, o0 dS_is, trivial⟩
    rcases List.mem_cons.1 hq with rfl | hq
    · show Φ x w1 _; rw [hx]; exact h3 w1 hw.1
    · rcases List.mem_singleton.1 hq with rfl
      show Φ x1 w1 _; rw [hx1]; exact h2.kp hw.1
theorem wOfI (k : Nat) {ki z : Int} {b : Bool} {xs : List Nat} (hki : (k : Int) = ki) (hp : ∀ w v, Φ p w v → RawI w v b xs) (hx : Φ x = fun w v => IntV w v z k) (hk : k ≤ 1000000) (hz : sg b (Proofs.Ytckhcijknfkghaa.val 4294967296 (xs.take k)) = z) :
    SiteOk Φ Try.prog ⟨4, [.fact p, .lit (.ci .i64 ki)], [⟨iS, [(0, 0, x)]⟩, ⟨dS, []⟩], true⟩ :=
  site2 fun X w v u h0 h1 => by
    obtain rfl : u = .int .i64 ki := h1
    refine (wOf k hki (hp _ _ (get h0)) hk hz).mono fun e w' h => ?_
    obtain ⟨hg, p', n, c, p2, n2, c2, b2, rfl, h2, h3⟩ := h
    refine ⟨hg, [_, _], rfl, ⟨iS_is, fun q hq w1 hw => ?_⟩, o0 dS_is, trivial⟩
    rcases List.mem_singleton.1 hq with rfl
    show Φ x w1 _; rw [hx]; exact h3 w1 hw.1
theorem sWithin {m : Int} (hq : ∀ w v, Φ q w v → v = .int .i64 m) (hx : Φ x = fun _ v => ∃ k : Nat, k < 4 ∧ v = .int .i64 (k : Int)) : SiteOk Φ Try.prog ⟨6, [.fact q, .lit (.ci .i64 4)], [⟨.one .i, [(0, 0, x)]⟩], false⟩ :=
  site2 fun X w v u h0 h1 => by
    obtain rfl : u = .int .i64 4 := h1
    obtain rfl := hq _ _ (get h0)
    refine (Within_any m 4 w (by omega) (by omega)).mono fun e w' h => ?_
    obtain ⟨k, hk, rfl, rfl⟩ := h
    exact ⟨grown_refl _ _, [_], rfl, o1 (F := fun _ v => ∃ k : Nat, k < 4 ∧ v = .int .i64 (k : Int)) (fun _ _ _ _ h => h) hx ⟨⟨_, rfl⟩, fun _ h => by cases h⟩ ⟨k, hk, rfl⟩, trivial⟩
theorem wDivMod {z y a b : Int} (hp : ∀ w v, Φ p w v → IntV w v z i) (hq : ∀ w v, Φ q w v → IntV w v y j) (hx : Φ x = fun w v => NorV w v a (i + 2)) (hx' : Φ x1 = fun w v => NorV w v b j) (hk : i + j ≤ 900000) (h0' : y ≠ 0) (he : z / y = a ∧ z % y = b) : SiteOk Φ Try.prog ⟨9, [.fact p, .fact q], [⟨iS, [(0, 0, x)]⟩, ⟨iS, [(0, 0, x1)]⟩, ⟨.one (.lit (.ci .i64 0)), []⟩], true⟩ :=
  site2 fun _ _ _ _ h0 h1 => (DivMod_g (hp _ _ (get h0)) (hq _ _ (get h1)) hk h0' he.1 he.2).mono fun _ _ h => by
    obtain ⟨b, s, n, c, b', s', n', c', rfl, h1, h2, h3⟩ := h
    exact ⟨h3, [_, _, _], rfl, outN hx rfl h1, outN hx' rfl h2, o0 ⟨rfl, fun _ h => by cases h⟩, trivial⟩
theorem wDivMod0 {z y : Int} (hp : ∀ w v, Φ p w v → IntV w v z i) (hq : ∀ w v, Φ q w v → IntV w v y j) (hk : i + j ≤ 900000) (h0' : y = 0) : SiteOk Φ Try.prog ⟨9, [.fact p, .fact q], [⟨.agg [.lit (.cb false), .lit .nl], []⟩, ⟨.agg [.lit (.cb false), .lit .nl], []⟩, ⟨.one (.lit (.ci .i64 2)), []⟩], true⟩ :=
  site2 fun _ _ _ _ h0 h1 => (DivMod_i0 (hp _ _ (get h0)) (hq _ _ (get h1)) hk h0').mono fun _ _ h => by
    obtain ⟨rfl, h2⟩ := h
    exact ⟨h2, [_, _, _], rfl, o0 ⟨[_, _], rfl, rfl, rfl, trivial⟩, o0 ⟨[_, _], rfl, rfl, rfl, trivial⟩, o0 ⟨rfl, fun _ h => by cases h⟩, trivial⟩
theorem wSame {z y : Int} (hp : ∀ w v, Φ p w v → NorV w v z i) (hq : ∀ w v, Φ q w v → NorV w v y j) (he : z = y) : SiteOk Φ Try.prog ⟨10, [.fact p, .fact q], [⟨.one (.lit (.cb true)), []⟩], false⟩ :=
  site2 fun _ _ _ _ h0 h1 => (SameInt_t (hp _ _ (get h0)).1 (hq _ _ (get h1)).1 he).mono fun _ _ h => pstB h
theorem wWakes : SiteOk Φ Try.prog ⟨15, [], [⟨.one (.lit (.cb true)), []⟩], false⟩ := site0 fun _ w => (wakes_true w).mono fun _ _ h => pstB h
theorem deriveI {p p1 k X : Nat} {b : Bool} {z : Int} (hp : Φ p = fun w v => IntV w v z k) (h1 : ∀ w v, Φ p1 w v → Num w v X k) (hz : sg b X = z) (Y : Nat → Prop) (w : World) (v : Value) (h : (Arg.parts (.agg [.lit (.cb b), .s]) [(1, 1, p1)]).ok Φ Y w v) : (Arg.fact p).ok Φ Y w v := fun w1 hw => by
  rw [hp]
  obtain ⟨⟨us, rfl, h2⟩, h3⟩ := h
  match us, h2 with
  | [v0, v1], h2 =>
    obtain ⟨e0, ⟨p', n, c, rfl⟩, _⟩ := h2
    have e0' : v0 = .bool b := e0
    subst e0'
    exact ⟨b, _, X, rfl, h1 _ _ (h3 (1, 1, p1) (List.mem_singleton.2 rfl) w1 hw), hz.symm⟩
theorem derive0 {p : Nat} (hp : Φ p = fun w v => NorV w v 0 0) (Y : Nat → Prop) (w : World) (v : Value) (h : (Arg.parts (.agg [.lit (.cb false), .lit .nl]) []).ok Φ Y w v) : (Arg.fact p).ok Φ Y w v := fun w1 hw => by
  rw [hp]
  obtain ⟨⟨us, rfl, h2⟩, _⟩ := h
  match us, h2 with
  | [v0, v1], h2 =>
    obtain ⟨e0, e1, _⟩ := h2
    have e0' : v0 = .bool false := e0
    have e1' : v1 = .slice none 0 0 := e1
    subst e0'; subst e1'
    exact ⟨⟨none, 0, by simp [dig, digF], by simpa [dig, digF] using Sl.nil w1 .u32⟩, by simp [Bd]⟩
end
def phi_path_tn (xs0 : List Nat) (z0 : Int) (x0 : Nat) (a1 : Bool) (xs1 : List Nat) (z1 m2 : Int) : List (World → Value → Prop) := [fun w v => RawI w v true xs0, fun w v => RawI w v a1 xs1, fun _ v => v = .int .i64 m2, fun w v => IntV w v z0 8, fun w v => Sl w .u32 v (xs0.take 8), fun w v => IntV w v z1 8, fun w v => ZRow w v (xs0.take 8), fun _ v => ∃ k : Nat, k < 4 ∧ v = .int .i64 (k : Int), fun w v => Num w v x0 11, fun w v => NorV w v z0 8, fun w v => NorV w v (z1 / z0) (8 + 2), fun w v => NorV w v (z1 % z0) 8, fun w v => IntV w v z0 11, fun w v => NorV w v (z1 / z0) (8 + 2), fun w v => NorV w v (z1 % z0) 11, fun w v => NorV w v z0 8, fun w v => NorV w v z0 11, fun w v => NorV w v (z0 + z1) (8 + 8 + 1), fun w v => NorV w v (z0 + z1) (11 + 8 + 1), fun w v => NorV w v (z0 * z1) (8 + 8), fun w v => NorV w v (z0 * z1) (11 + 8), fun w v => NorV w v (Int.gcd z0 z1 : Int) 20, fun w v => NorV w v (Int.gcd z0 z1 : Int) 20]
def ins_path_tn : List Out := [⟨.agg [.lit (.cb true), .s], [(0, 0, 0)]⟩, ⟨.agg [.b, .s], [(0, 0, 1)]⟩, ⟨.one (.i), [(0, 0, 2)]⟩]
def ss_path_tn : List Step := [.base ⟨4, [.fact 0, .lit (.ci .i64 8)], [⟨.agg [.lit (.cb true), .s], [(0, 0, 3), (1, 1, 4)]⟩, ⟨.agg [.s, .b], []⟩], true⟩,
      .base ⟨4, [.fact 1, .lit (.ci .i64 8)], [⟨.agg [.b, .s], [(0, 0, 5)]⟩, ⟨.agg [.s, .b], []⟩], true⟩,
      .base ⟨5, [.fact 4], [⟨.one (.s), [(0, 0, 6)]⟩], false⟩,
      .base ⟨6, [.fact 2, .lit (.ci .i64 4)], [⟨.one (.i), [(0, 0, 7)]⟩], false⟩,
      .base ⟨0, [.fact 6, .fact 7], [⟨.one (.s), [(0, 0, 8)]⟩], .quiet (mApp 22 3)⟩,
      .base ⟨7, [.fact 3], [⟨.agg [.b, .s], [(0, 0, 9)]⟩], false⟩,
      .base ⟨8, [.fact 9], [⟨.one (.lit (.cb false)), []⟩], false⟩,
      .base ⟨9, [.fact 5, .fact 3], [⟨.agg [.b, .s], [(0, 0, 10)]⟩, ⟨.agg [.b, .s], [(0, 0, 11)]⟩, ⟨.one (.lit (.ci .i64 0)), []⟩], true⟩,
      .derive (.agg [.cb true, .s 23 0]) (.agg [.lit (.cb true), .s]) [(1, 1, 8)] 12,
      .base ⟨9, [.fact 5, .fact 12], [⟨.agg [.b, .s], [(0, 0, 13)]⟩, ⟨.agg [.b, .s], [(0, 0, 14)]⟩, ⟨.one (.lit (.ci .i64 0)), []⟩], true⟩,
      .base ⟨7, [.fact 3], [⟨.agg [.b, .s], [(0, 0, 15)]⟩], false⟩,
      .base ⟨7, [.fact 12], [⟨.agg [.b, .s], [(0, 0, 16)]⟩], false⟩,
      .base ⟨10, [.fact 15, .fact 16], [⟨.one (.lit (.cb true)), []⟩], false⟩,
      .base ⟨11, [.fact 3, .fact 12], [⟨.one (.lit (.ci .i64 0)), []⟩], false⟩,
      .base ⟨12, [.fact 3, .fact 5], [⟨.agg [.b, .s], [(0, 0, 17)]⟩], false⟩,
      .base ⟨12, [.fact 12, .fact 5], [⟨.agg [.b, .s], [(0, 0, 18)]⟩], false⟩,
      .base ⟨10, [.fact 17, .fact 18], [⟨.one (.lit (.cb true)), []⟩], false⟩,
      .base ⟨13, [.fact 3, .fact 5], [⟨.agg [.b, .s], [(0, 0, 19)]⟩], false⟩,
      .base ⟨13, [.fact 12, .fact 5], [⟨.agg [.b, .s], [(0, 0, 20)]⟩], false⟩,
      .base ⟨10, [.fact 19, .fact 20], [⟨.one (.lit (.cb true)), []⟩], false⟩,
      .base ⟨10, [.fact 10, .fact 13], [⟨.one (.lit (.cb true)), []⟩], false⟩,
      .base ⟨10, [.fact 11, .fact 14], [⟨.one (.lit (.cb true)), []⟩], false⟩,
      .base ⟨14, [.row 2 [3, 5]], [⟨.agg [.b, .s], [(0, 0, 21)]⟩], false⟩,
      .base ⟨14, [.row 2 [12, 5]], [⟨.agg [.b, .s], [(0, 0, 22)]⟩], false⟩,
      .base ⟨10, [.fact 21, .fact 22], [⟨.one (.lit (.cb true)), []⟩], false⟩,
      .base ⟨15, [], [⟨.one (.lit (.cb true)), []⟩], false⟩]
set_option maxRecDepth 100000 in
theorem path_tn {xs0 : List Nat} {z0 : Int} {x0 : Nat} {a1 : Bool} {xs1 : List Nat} {z1 m2 : Int} (ax0 : All 4294967296 xs0) (hX0 : Proofs.Ytckhcijknfkghaa.val 4294967296 (xs0.take 8) = x0) (hz0X : sg true x0 = z0) (hz0 : sg true (Proofs.Ytckhcijknfkghaa.val 4294967296 (xs0.take 8)) = z0) (hz1 : sg a1 (Proofs.Ytckhcijknfkghaa.val 4294967296 (xs1.take 8)) = z1) (h0 : z0 ≠ 0) : SiteOk (ph (phi_path_tn xs0 z0 x0 a1 xs1 z1 m2)) Try.prog ⟨3, [.fact 0, .fact 1, .fact 2], [⟨.one (.lit (.cb true)), []⟩], false⟩ :=
  fn_okL ins_path_tn [⟨.one (.lit (.cb true)), []⟩] ss_path_tn Try.func3 (by kernel_rfl)
    (lbase (wOfL 8 rfl (fun _ _ h => h) rfl rfl (by omega) hz0)
      (lbase (wOfI 8 rfl (fun _ _ h => h) rfl (by omega) hz1)
      (lbase (sCopyZ (fun _ _ h => h) rfl (by rw [List.length_take]; omega))
      (lbase (sWithin (fun _ _ h => h) rfl)
      (lbase (qAppendZ (fun _ _ h => h) (fun _ _ h => h) (by rw [List.length_take]; omega) rfl (fun _ _ _ hk h => num_zeros ax0 hX0 hk h))
      (lbase (sNorm iI rfl (by omega) rfl)
      (lbase (sIZero nN (decide_eq_false h0))
      (lbase (wDivMod iI iI rfl rfl (by omega) h0 ⟨rfl, rfl⟩)
      (lderive (deriveI rfl (fun _ _ h => h) hz0X)
      (lbase (wDivMod iI iI rfl rfl (by omega) h0 ⟨rfl, rfl⟩)
      (lbase (sNorm iI rfl (by omega) rfl)
      (lbase (sNorm iI rfl (by omega) rfl)
      (lbase (wSame nN nN rfl)
      (lbase (sCmp iI iI (by omega) (cmpI_same z0))
      (lbase (sAdd iI iI rfl (by omega) rfl)
      (lbase (sAdd iI iI rfl (by omega) rfl)
      (lbase (wSame nN nN rfl)
      (lbase (sMul iI iI rfl (by omega) rfl)
      (lbase (sMul iI iI rfl (by omega) rfl)
      (lbase (wSame nN nN rfl)
      (lbase (wSame nN nN rfl)
      (lbase (wSame nN nN rfl)
      (lbase (sGcd 20 iI iI rfl (by omega) (by omega) (by omega) rfl)
      (lbase (sGcd 20 iI iI rfl (by omega) (by omega) (by omega) rfl)
      (lbase (wSame nN nN rfl)
      (lbase (wWakes)
      lnil))))))))))))))))))))))))))
    (ins_ok [.fact 0 (.agg [.lit (.cb true), .s]), .fact 1 (.agg [.b, .s]), .fact 2 (.one (.i))] ⟨fun _ _ h => RawI.lit_is h, fun _ _ h => RawI.is h, fun _ _ h => ⟨⟨_, h⟩, fun _ e => by rw [h] at e; cases e⟩, trivial⟩) (fun _ _ _ h => h)

def phi_path_fn (xs0 : List Nat) (z0 : Int) (x0 : Nat) (a1 : Bool) (xs1 : List Nat) (z1 m2 : Int) : List (World → Value → Prop) := [fun w v => RawI w v false xs0, fun w v => RawI w v a1 xs1, fun _ v => v = .int .i64 m2, fun w v => IntV w v z0 8, fun w v => Sl w .u32 v (xs0.take 8), fun w v => IntV w v z1 8, fun w v => ZRow w v (xs0.take 8), fun _ v => ∃ k : Nat, k < 4 ∧ v = .int .i64 (k : Int), fun w v => Num w v x0 11, fun w v => NorV w v z0 8, fun w v => NorV w v (z1 / z0) (8 + 2), fun w v => NorV w v (z1 % z0) 8, fun w v => IntV w v z0 11, fun w v => NorV w v (z1 / z0) (8 + 2), fun w v => NorV w v (z1 % z0) 11, fun w v => NorV w v z0 8, fun w v => NorV w v z0 11, fun w v => NorV w v (z0 + z1) (8 + 8 + 1), fun w v => NorV w v (z0 + z1) (11 + 8 + 1), fun w v => NorV w v (z0 * z1) (8 + 8), fun w v => NorV w v (z0 * z1) (11 + 8), fun w v => NorV w v (Int.gcd z0 z1 : Int) 20, fun w v => NorV w v (Int.gcd z0 z1 : Int) 20]
def ins_path_fn : List Out := [⟨.agg [.lit (.cb false), .s], [(0, 0, 0)]⟩, ⟨.agg [.b, .s], [(0, 0, 1)]⟩, ⟨.one (.i), [(0, 0, 2)]⟩]
def ss_path_fn : List Step := [.base ⟨4, [.fact 0, .lit (.ci .i64 8)], [⟨.agg [.lit (.cb false), .s], [(0, 0, 3), (1, 1, 4)]⟩, ⟨.agg [.s, .b], []⟩], true⟩,
      .base ⟨4, [.fact 1, .lit (.ci .i64 8)], [⟨.agg [.b, .s], [(0, 0, 5)]⟩, ⟨.agg [.s, .b], []⟩], true⟩,
      .base ⟨5, [.fact 4], [⟨.one (.s), [(0, 0, 6)]⟩], false⟩,
      .base ⟨6, [.fact 2, .lit (.ci .i64 4)], [⟨.one (.i), [(0, 0, 7)]⟩], false⟩,
      .base ⟨0, [.fact 6, .fact 7], [⟨.one (.s), [(0, 0, 8)]⟩], .quiet (mApp 22 3)⟩,
      .base ⟨7, [.fact 3], [⟨.agg [.b, .s], [(0, 0, 9)]⟩], false⟩,
      .base ⟨8, [.fact 9], [⟨.one (.lit (.cb false)), []⟩], false⟩,
      .base ⟨9, [.fact 5, .fact 3], [⟨.agg [.b, .s], [(0, 0, 10)]⟩, ⟨.agg [.b, .s], [(0, 0, 11)]⟩, ⟨.one (.lit (.ci .i64 0)), []⟩], true⟩,
      .derive (.agg [.cb false, .s 23 0]) (.agg [.lit (.cb false), .s]) [(1, 1, 8)] 12,
      .base ⟨9, [.fact 5, .fact 12], [⟨.agg [.b, .s], [(0, 0, 13)]⟩, ⟨.agg [.b, .s], [(0, 0, 14)]⟩, ⟨.one (.lit (.ci .i64 0)), []⟩], true⟩,
      .base ⟨7, [.fact 3], [⟨.agg [.b, .s], [(0, 0, 15)]⟩], false⟩,
      .base ⟨7, [.fact 12], [⟨.agg [.b, .s], [(0, 0, 16)]⟩], false⟩,
      .base ⟨10, [.fact 15, .fact 16], [⟨.one (.lit (.cb true)), []⟩], false⟩,
      .base ⟨11, [.fact 3, .fact 12], [⟨.one (.lit (.ci .i64 0)), []⟩], false⟩,
      .base ⟨12, [.fact 3, .fact 5], [⟨.agg [.b, .s], [(0, 0, 17)]⟩], false⟩,
      .base ⟨12, [.fact 12, .fact 5], [⟨.agg [.b, .s], [(0, 0, 18)]⟩], false⟩,
      .base ⟨10, [.fact 17, .fact 18], [⟨.one (.lit (.cb true)), []⟩], false⟩,
      .base ⟨13, [.fact 3, .fact 5], [⟨.agg [.b, .s], [(0, 0, 19)]⟩], false⟩,
      .base ⟨13, [.fact 12, .fact 5], [⟨.agg [.b, .s], [(0, 0, 20)]⟩], false⟩,
      .base ⟨10, [.fact 19, .fact 20], [⟨.one (.lit (.cb true)), []⟩], false⟩,
      .base ⟨10, [.fact 10, .fact 13], [⟨.one (.lit (.cb true)), []⟩], false⟩,
      .base ⟨10, [.fact 11, .fact 14], [⟨.one (.lit (.cb true)), []⟩], false⟩,
      .base ⟨14, [.row 2 [3, 5]], [⟨.agg [.b, .s], [(0, 0, 21)]⟩], false⟩,
      .base ⟨14, [.row 2 [12, 5]], [⟨.agg [.b, .s], [(0, 0, 22)]⟩], false⟩,
      .base ⟨10, [.fact 21, .fact 22], [⟨.one (.lit (.cb true)), []⟩], false⟩,
      .base ⟨15, [], [⟨.one (.lit (.cb true)), []⟩], false⟩]
set_option maxRecDepth 100000 in
theorem path_fn {xs0 : List Nat} {z0 : Int} {x0 : Nat} {a1 : Bool} {xs1 : List Nat} {z1 m2 : Int} (ax0 : All 4294967296 xs0) (hX0 : Proofs.Ytckhcijknfkghaa.val 4294967296 (xs0.take 8) = x0) (hz0X : sg false x0 = z0) (hz0 : sg false (Proofs.Ytckhcijknfkghaa.val 4294967296 (xs0.take 8)) = z0) (hz1 : sg a1 (Proofs.Ytckhcijknfkghaa.val 4294967296 (xs1.take 8)) = z1) (h0 : z0 ≠ 0) : SiteOk (ph (phi_path_fn xs0 z0 x0 a1 xs1 z1 m2)) Try.prog ⟨3, [.fact 0, .fact 1, .fact 2], [⟨.one (.lit (.cb true)), []⟩], false⟩ :=
  fn_okL ins_path_fn [⟨.one (.lit (.cb true)), []⟩] ss_path_fn Try.func3 (by kernel_rfl)
    (lbase (wOfL 8 rfl (fun _ _ h => h) rfl rfl (by omega) hz0)
      (lbase (wOfI 8 rfl (fun _ _ h => h) rfl (by omega) hz1)
      (lbase (sCopyZ (fun _ _ h => h) rfl (by rw [List.length_take]; omega))
      (lbase (sWithin (fun _ _ h => h) rfl)
      (lbase (qAppendZ (fun _ _ h => h) (fun _ _ h => h) (by rw [List.length_take]; omega) rfl (fun _ _ _ hk h => num_zeros ax0 hX0 hk h))
      (lbase (sNorm iI rfl (by omega) rfl)
      (lbase (sIZero nN (decide_eq_false h0))
      (lbase (wDivMod iI iI rfl rfl (by omega) h0 ⟨rfl, rfl⟩)
      (lderive (deriveI rfl (fun _ _ h => h) hz0X)
      (lbase (wDivMod iI iI rfl rfl (by omega) h0 ⟨rfl, rfl⟩)
      (lbase (sNorm iI rfl (by omega) rfl)
      (lbase (sNorm iI rfl (by omega) rfl)
      (lbase (wSame nN nN rfl)
      (lbase (sCmp iI iI (by omega) (cmpI_same z0))
      (lbase (sAdd iI iI rfl (by omega) rfl)
      (lbase (sAdd iI iI rfl (by omega) rfl)
      (lbase (wSame nN nN rfl)
      (lbase (sMul iI iI rfl (by omega) rfl)
      (lbase (sMul iI iI rfl (by omega) rfl)
      (lbase (wSame nN nN rfl)
      (lbase (wSame nN nN rfl)
      (lbase (wSame nN nN rfl)
      (lbase (sGcd 20 iI iI rfl (by omega) (by omega) (by omega) rfl)
      (lbase (sGcd 20 iI iI rfl (by omega) (by omega) (by omega) rfl)
      (lbase (wSame nN nN rfl)
      (lbase (wWakes)
      lnil))))))))))))))))))))))))))
    (ins_ok [.fact 0 (.agg [.lit (.cb false), .s]), .fact 1 (.agg [.b, .s]), .fact 2 (.one (.i))] ⟨fun _ _ h => RawI.lit_is h, fun _ _ h => RawI.is h, fun _ _ h => ⟨⟨_, h⟩, fun _ e => by rw [h] at e; cases e⟩, trivial⟩) (fun _ _ _ h => h)

def phi_path_tz (xs0 : List Nat) (z0 : Int) (x0 : Nat) (a1 : Bool) (xs1 : List Nat) (z1 m2 : Int) : List (World → Value → Prop) := [fun w v => RawI w v true xs0, fun w v => RawI w v a1 xs1, fun _ v => v = .int .i64 m2, fun w v => IntV w v z0 8, fun w v => Sl w .u32 v (xs0.take 8), fun w v => IntV w v z1 8, fun w v => ZRow w v (xs0.take 8), fun _ v => ∃ k : Nat, k < 4 ∧ v = .int .i64 (k : Int), fun w v => Num w v x0 11, fun w v => NorV w v z0 8, fun w v => IntV w v z0 11, fun w v => NorV w v z0 8, fun w v => NorV w v z0 11, fun w v => NorV w v (z0 + z1) (8 + 8 + 1), fun w v => NorV w v (z0 + z1) (11 + 8 + 1), fun w v => NorV w v (z0 * z1) (8 + 8), fun w v => NorV w v (z0 * z1) (11 + 8), fun w v => NorV w v 0 0, fun w v => NorV w v (Int.gcd z0 z1 : Int) 20, fun w v => NorV w v (Int.gcd z0 z1 : Int) 20]
def ins_path_tz : List Out := [⟨.agg [.lit (.cb true), .s], [(0, 0, 0)]⟩, ⟨.agg [.b, .s], [(0, 0, 1)]⟩, ⟨.one (.i), [(0, 0, 2)]⟩]
def ss_path_tz : List Step := [.base ⟨4, [.fact 0, .lit (.ci .i64 8)], [⟨.agg [.lit (.cb true), .s], [(0, 0, 3), (1, 1, 4)]⟩, ⟨.agg [.s, .b], []⟩], true⟩,
      .base ⟨4, [.fact 1, .lit (.ci .i64 8)], [⟨.agg [.b, .s], [(0, 0, 5)]⟩, ⟨.agg [.s, .b], []⟩], true⟩,
      .base ⟨5, [.fact 4], [⟨.one (.s), [(0, 0, 6)]⟩], false⟩,
      .base ⟨6, [.fact 2, .lit (.ci .i64 4)], [⟨.one (.i), [(0, 0, 7)]⟩], false⟩,
      .base ⟨0, [.fact 6, .fact 7], [⟨.one (.s), [(0, 0, 8)]⟩], .quiet (mApp 22 3)⟩,
      .base ⟨7, [.fact 3], [⟨.agg [.b, .s], [(0, 0, 9)]⟩], false⟩,
      .base ⟨8, [.fact 9], [⟨.one (.lit (.cb true)), []⟩], false⟩,
      .base ⟨9, [.fact 5, .fact 3], [⟨.agg [.lit (.cb false), .lit (.nl)], []⟩, ⟨.agg [.lit (.cb false), .lit (.nl)], []⟩, ⟨.one (.lit (.ci .i64 2)), []⟩], true⟩,
      .derive (.agg [.cb false, .s 23 0]) (.agg [.lit (.cb false), .s]) [(1, 1, 8)] 10,
      .base ⟨9, [.fact 5, .fact 10], [⟨.agg [.lit (.cb false), .lit (.nl)], []⟩, ⟨.agg [.lit (.cb false), .lit (.nl)], []⟩, ⟨.one (.lit (.ci .i64 2)), []⟩], true⟩,
      .derive (.agg [.cb false, .nl]) (.agg [.lit (.cb false), .lit (.nl)]) [] 17,
      .base ⟨7, [.fact 3], [⟨.agg [.b, .s], [(0, 0, 11)]⟩], false⟩,
      .base ⟨7, [.fact 10], [⟨.agg [.b, .s], [(0, 0, 12)]⟩], false⟩,
      .base ⟨10, [.fact 11, .fact 12], [⟨.one (.lit (.cb true)), []⟩], false⟩,
      .base ⟨11, [.fact 3, .fact 10], [⟨.one (.lit (.ci .i64 0)), []⟩], false⟩,
      .base ⟨12, [.fact 3, .fact 5], [⟨.agg [.b, .s], [(0, 0, 13)]⟩], false⟩,
      .base ⟨12, [.fact 10, .fact 5], [⟨.agg [.b, .s], [(0, 0, 14)]⟩], false⟩,
      .base ⟨10, [.fact 13, .fact 14], [⟨.one (.lit (.cb true)), []⟩], false⟩,
      .base ⟨13, [.fact 3, .fact 5], [⟨.agg [.b, .s], [(0, 0, 15)]⟩], false⟩,
      .base ⟨13, [.fact 10, .fact 5], [⟨.agg [.b, .s], [(0, 0, 16)]⟩], false⟩,
      .base ⟨10, [.fact 15, .fact 16], [⟨.one (.lit (.cb true)), []⟩], false⟩,
      .base ⟨10, [.fact 17, .fact 17], [⟨.one (.lit (.cb true)), []⟩], false⟩,
      .base ⟨10, [.fact 17, .fact 17], [⟨.one (.lit (.cb true)), []⟩], false⟩,
      .base ⟨14, [.row 2 [3, 5]], [⟨.agg [.b, .s], [(0, 0, 18)]⟩], false⟩,
      .base ⟨14, [.row 2 [10, 5]], [⟨.agg [.b, .s], [(0, 0, 19)]⟩], false⟩,
      .base ⟨10, [.fact 18, .fact 19], [⟨.one (.lit (.cb true)), []⟩], false⟩,
      .base ⟨15, [], [⟨.one (.lit (.cb true)), []⟩], false⟩]
set_option maxRecDepth 100000 in
theorem path_tz {xs0 : List Nat} {z0 : Int} {x0 : Nat} {a1 : Bool} {xs1 : List Nat} {z1 m2 : Int} (ax0 : All 4294967296 xs0) (hX0 : Proofs.Ytckhcijknfkghaa.val 4294967296 (xs0.take 8) = x0) (hz0X : sg true x0 = z0) (hz0 : sg true (Proofs.Ytckhcijknfkghaa.val 4294967296 (xs0.take 8)) = z0) (hz1 : sg a1 (Proofs.Ytckhcijknfkghaa.val 4294967296 (xs1.take 8)) = z1) (h0 : z0 = 0) : SiteOk (ph (phi_path_tz xs0 z0 x0 a1 xs1 z1 m2)) Try.prog ⟨3, [.fact 0, .fact 1, .fact 2], [⟨.one (.lit (.cb true)), []⟩], false⟩ :=
  fn_okL ins_path_tz [⟨.one (.lit (.cb true)), []⟩] ss_path_tz Try.func3 (by kernel_rfl)
    (lbase (wOfL 8 rfl (fun _ _ h => h) rfl rfl (by omega) hz0)
      (lbase (wOfI 8 rfl (fun _ _ h => h) rfl (by omega) hz1)
      (lbase (sCopyZ (fun _ _ h => h) rfl (by rw [List.length_take]; omega))
      (lbase (sWithin (fun _ _ h => h) rfl)
      (lbase (qAppendZ (fun _ _ h => h) (fun _ _ h => h) (by rw [List.length_take]; omega) rfl (fun _ _ _ hk h => num_zeros ax0 hX0 hk h))
      (lbase (sNorm iI rfl (by omega) rfl)
      (lbase (sIZero nN (decide_eq_true h0))
      (lbase (wDivMod0 iI iI (by omega) h0)
      (lderive (deriveI rfl (fun _ _ h => h) (sg_zero false hz0X h0))
      (lbase (wDivMod0 iI iI (by omega) h0)
      (lderive (derive0 rfl)
      (lbase (sNorm iI rfl (by omega) rfl)
      (lbase (sNorm iI rfl (by omega) rfl)
      (lbase (wSame nN nN rfl)
      (lbase (sCmp iI iI (by omega) (cmpI_same z0))
      (lbase (sAdd iI iI rfl (by omega) rfl)
      (lbase (sAdd iI iI rfl (by omega) rfl)
      (lbase (wSame nN nN rfl)
      (lbase (sMul iI iI rfl (by omega) rfl)
      (lbase (sMul iI iI rfl (by omega) rfl)
      (lbase (wSame nN nN rfl)
      (lbase (wSame nN nN rfl)
      (lbase (wSame nN nN rfl)
      (lbase (sGcd 20 iI iI rfl (by omega) (by omega) (by omega) rfl)
      (lbase (sGcd 20 iI iI rfl (by omega) (by omega) (by omega) rfl)
      (lbase (wSame nN nN rfl)
      (lbase (wWakes)
      lnil)))))))))))))))))))))))))))
    (ins_ok [.fact 0 (.agg [.lit (.cb true), .s]), .fact 1 (.agg [.b, .s]), .fact 2 (.one (.i))] ⟨fun _ _ h => RawI.lit_is h, fun _ _ h => RawI.is h, fun _ _ h => ⟨⟨_, h⟩, fun _ e => by rw [h] at e; cases e⟩, trivial⟩) (fun _ _ _ h => h)

def phi_path_fz (xs0 : List Nat) (z0 : Int) (x0 : Nat) (a1 : Bool) (xs1 : List Nat) (z1 m2 : Int) : List (World → Value → Prop) := [fun w v => RawI w v false xs0, fun w v => RawI w v a1 xs1, fun _ v => v = .int .i64 m2, fun w v => IntV w v z0 8, fun w v => Sl w .u32 v (xs0.take 8), fun w v => IntV w v z1 8, fun w v => ZRow w v (xs0.take 8), fun _ v => ∃ k : Nat, k < 4 ∧ v = .int .i64 (k : Int), fun w v => Num w v x0 11, fun w v => NorV w v z0 8, fun w v => IntV w v z0 11, fun w v => NorV w v z0 8, fun w v => NorV w v z0 11, fun w v => NorV w v (z0 + z1) (8 + 8 + 1), fun w v => NorV w v (z0 + z1) (11 + 8 + 1), fun w v => NorV w v (z0 * z1) (8 + 8), fun w v => NorV w v (z0 * z1) (11 + 8), fun w v => NorV w v 0 0, fun w v => NorV w v (Int.gcd z0 z1 : Int) 20, fun w v => NorV w v (Int.gcd z0 z1 : Int) 20]
def ins_path_fz : List Out := [⟨.agg [.lit (.cb false), .s], [(0, 0, 0)]⟩, ⟨.agg [.b, .s], [(0, 0, 1)]⟩, ⟨.one (.i), [(0, 0, 2)]⟩]
def ss_path_fz : List Step := [.base ⟨4, [.fact 0, .lit (.ci .i64 8)], [⟨.agg [.lit (.cb false), .s], [(0, 0, 3), (1, 1, 4)]⟩, ⟨.agg [.s, .b], []⟩], true⟩,
      .base ⟨4, [.fact 1, .lit (.ci .i64 8)], [⟨.agg [.b, .s], [(0, 0, 5)]⟩, ⟨.agg [.s, .b], []⟩], true⟩,
      .base ⟨5, [.fact 4], [⟨.one (.s), [(0, 0, 6)]⟩], false⟩,
      .base ⟨6, [.fact 2, .lit (.ci .i64 4)], [⟨.one (.i), [(0, 0, 7)]⟩], false⟩,
      .base ⟨0, [.fact 6, .fact 7], [⟨.one (.s), [(0, 0, 8)]⟩], .quiet (mApp 22 3)⟩,
      .base ⟨7, [.fact 3], [⟨.agg [.b, .s], [(0, 0, 9)]⟩], false⟩,
      .base ⟨8, [.fact 9], [⟨.one (.lit (.cb true)), []⟩], false⟩,
      .base ⟨9, [.fact 5, .fact 3], [⟨.agg [.lit (.cb false), .lit (.nl)], []⟩, ⟨.agg [.lit (.cb false), .lit (.nl)], []⟩, ⟨.one (.lit (.ci .i64 2)), []⟩], true⟩,
      .derive (.agg [.cb true, .s 23 0]) (.agg [.lit (.cb true), .s]) [(1, 1, 8)] 10,
      .base ⟨9, [.fact 5, .fact 10], [⟨.agg [.lit (.cb false), .lit (.nl)], []⟩, ⟨.agg [.lit (.cb false), .lit (.nl)], []⟩, ⟨.one (.lit (.ci .i64 2)), []⟩], true⟩,
      .derive (.agg [.cb false, .nl]) (.agg [.lit (.cb false), .lit (.nl)]) [] 17,
      .base ⟨7, [.fact 3], [⟨.agg [.b, .s], [(0, 0, 11)]⟩], false⟩,
      .base ⟨7, [.fact 10], [⟨.agg [.b, .s], [(0, 0, 12)]⟩], false⟩,
      .base ⟨10, [.fact 11, .fact 12], [⟨.one (.lit (.cb true)), []⟩], false⟩,
      .base ⟨11, [.fact 3, .fact 10], [⟨.one (.lit (.ci .i64 0)), []⟩], false⟩,
      .base ⟨12, [.fact 3, .fact 5], [⟨.agg [.b, .s], [(0, 0, 13)]⟩], false⟩,
      .base ⟨12, [.fact 10, .fact 5], [⟨.agg [.b, .s], [(0, 0, 14)]⟩], false⟩,
      .base ⟨10, [.fact 13, .fact 14], [⟨.one (.lit (.cb true)), []⟩], false⟩,
      .base ⟨13, [.fact 3, .fact 5], [⟨.agg [.b, .s], [(0, 0, 15)]⟩], false⟩,
      .base ⟨13, [.fact 10, .fact 5], [⟨.agg [.b, .s], [(0, 0, 16)]⟩], false⟩,
      .base ⟨10, [.fact 15, .fact 16], [⟨.one (.lit (.cb true)), []⟩], false⟩,
      .base ⟨10, [.fact 17, .fact 17], [⟨.one (.lit (.cb true)), []⟩], false⟩,
      .base ⟨10, [.fact 17, .fact 17], [⟨.one (.lit (.cb true)), []⟩], false⟩,
      .base ⟨14, [.row 2 [3, 5]], [⟨.agg [.b, .s], [(0, 0, 18)]⟩], false⟩,
      .base ⟨14, [.row 2 [10, 5]], [⟨.agg [.b, .s], [(0, 0, 19)]⟩], false⟩,
      .base ⟨10, [.fact 18, .fact 19], [⟨.one (.lit (.cb true)), []⟩], false⟩,
      .base ⟨15, [], [⟨.one (.lit (.cb true)), []⟩], false⟩]
set_option maxRecDepth 100000 in
theorem path_fz {xs0 : List Nat} {z0 : Int} {x0 : Nat} {a1 : Bool} {xs1 : List Nat} {z1 m2 : Int} (ax0 : All 4294967296 xs0) (hX0 : Proofs.Ytckhcijknfkghaa.val 4294967296 (xs0.take 8) = x0) (hz0X : sg false x0 = z0) (hz0 : sg false (Proofs.Ytckhcijknfkghaa.val 4294967296 (xs0.take 8)) = z0) (hz1 : sg a1 (Proofs.Ytckhcijknfkghaa.val 4294967296 (xs1.take 8)) = z1) (h0 : z0 = 0) : SiteOk (ph (phi_path_fz xs0 z0 x0 a1 xs1 z1 m2)) Try.prog ⟨3, [.fact 0, .fact 1, .fact 2], [⟨.one (.lit (.cb true)), []⟩], false⟩ :=
  fn_okL ins_path_fz [⟨.one (.lit (.cb true)), []⟩] ss_path_fz Try.func3 (by kernel_rfl)
    (lbase (wOfL 8 rfl (fun _ _ h => h) rfl rfl (by omega) hz0)
      (lbase (wOfI 8 rfl (fun _ _ h => h) rfl (by omega) hz1)
      (lbase (sCopyZ (fun _ _ h => h) rfl (by rw [List.length_take]; omega))
      (lbase (sWithin (fun _ _ h => h) rfl)
      (lbase (qAppendZ (fun _ _ h => h) (fun _ _ h => h) (by rw [List.length_take]; omega) rfl (fun _ _ _ hk h => num_zeros ax0 hX0 hk h))
      (lbase (sNorm iI rfl (by omega) rfl)
      (lbase (sIZero nN (decide_eq_true h0))
      (lbase (wDivMod0 iI iI (by omega) h0)
      (lderive (deriveI rfl (fun _ _ h => h) (sg_zero true hz0X h0))
      (lbase (wDivMod0 iI iI (by omega) h0)
      (lderive (derive0 rfl)
      (lbase (sNorm iI rfl (by omega) rfl)
      (lbase (sNorm iI rfl (by omega) rfl)
      (lbase (wSame nN nN rfl)
      (lbase (sCmp iI iI (by omega) (cmpI_same z0))
      (lbase (sAdd iI iI rfl (by omega) rfl)
      (lbase (sAdd iI iI rfl (by omega) rfl)
      (lbase (wSame nN nN rfl)
      (lbase (sMul iI iI rfl (by omega) rfl)
      (lbase (sMul iI iI rfl (by omega) rfl)
      (lbase (wSame nN nN rfl)
      (lbase (wSame nN nN rfl)
      (lbase (wSame nN nN rfl)
      (lbase (sGcd 20 iI iI rfl (by omega) (by omega) (by omega) rfl)
      (lbase (sGcd 20 iI iI rfl (by omega) (by omega) (by omega) rfl)
      (lbase (wSame nN nN rfl)
      (lbase (wWakes)
      lnil)))))))))))))))))))))))))))
    (ins_ok [.fact 0 (.agg [.lit (.cb false), .s]), .fact 1 (.agg [.b, .s]), .fact 2 (.one (.i))] ⟨fun _ _ h => RawI.lit_is h, fun _ _ h => RawI.is h, fun _ _ h => ⟨⟨_, h⟩, fun _ e => by rw [h] at e; cases e⟩, trivial⟩) (fun _ _ _ h => h)

theorem walk {a0 : Bool} {s0 : Value} {xs0 : List Nat} {a1 : Bool} {s1 : Value} {xs1 : List Nat} {w : World} (hx0 : Sl w .u32 s0 xs0) (ax0 : All 4294967296 xs0) (hx1 : Sl w .u32 s1 xs1) (ax1 : All 4294967296 xs1) (m2 : Int) (_ : -9223372036854775808 ≤ m2) (_ : m2 ≤ 9223372036854775807) :
    Calls Try.prog 3 #[.agg #[.bool a0, s0], .agg #[.bool a1, s1], .int .i64 m2] w (Bool_ w true) := by
  obtain ⟨x0, hX0⟩ : ∃ x, Proofs.Ytckhcijknfkghaa.val 4294967296 (xs0.take 8) = x := ⟨_, rfl⟩
  obtain ⟨z0, hz0⟩ : ∃ z, sg a0 (Proofs.Ytckhcijknfkghaa.val 4294967296 (xs0.take 8)) = z := ⟨_, rfl⟩
  obtain ⟨z1, hz1⟩ : ∃ z, sg a1 (Proofs.Ytckhcijknfkghaa.val 4294967296 (xs1.take 8)) = z := ⟨_, rfl⟩
  by_cases h0 : z0 = 0
  · cases a0
    · exact law_true (path_fz ax0 hX0 (hz0 ▸ hX0 ▸ rfl) hz0 hz1 h0) (vs := [.agg #[.bool false, s0], .agg #[.bool a1, s1], .int .i64 m2]) ⟨arg_kp rfl (fun _ _ _ g h => RawI.kp h g) ⟨_, rfl, hx0, ax0⟩, arg_kp rfl (fun _ _ _ g h => RawI.kp h g) ⟨_, rfl, hx1, ax1⟩, fun _ _ => rfl, trivial⟩
    · exact law_true (path_tz ax0 hX0 (hz0 ▸ hX0 ▸ rfl) hz0 hz1 h0) (vs := [.agg #[.bool true, s0], .agg #[.bool a1, s1], .int .i64 m2]) ⟨arg_kp rfl (fun _ _ _ g h => RawI.kp h g) ⟨_, rfl, hx0, ax0⟩, arg_kp rfl (fun _ _ _ g h => RawI.kp h g) ⟨_, rfl, hx1, ax1⟩, fun _ _ => rfl, trivial⟩
  · cases a0
    · exact law_true (path_fn ax0 hX0 (hz0 ▸ hX0 ▸ rfl) hz0 hz1 h0) (vs := [.agg #[.bool false, s0], .agg #[.bool a1, s1], .int .i64 m2]) ⟨arg_kp rfl (fun _ _ _ g h => RawI.kp h g) ⟨_, rfl, hx0, ax0⟩, arg_kp rfl (fun _ _ _ g h => RawI.kp h g) ⟨_, rfl, hx1, ax1⟩, fun _ _ => rfl, trivial⟩
    · exact law_true (path_tn ax0 hX0 (hz0 ▸ hX0 ▸ rfl) hz0 hz1 h0) (vs := [.agg #[.bool true, s0], .agg #[.bool a1, s1], .int .i64 m2]) ⟨arg_kp rfl (fun _ _ _ g h => RawI.kp h g) ⟨_, rfl, hx0, ax0⟩, arg_kp rfl (fun _ _ _ g h => RawI.kp h g) ⟨_, rfl, hx1, ax1⟩, fun _ _ => rfl, trivial⟩

set_option maxRecDepth 100000 in
theorem lifted (os : Os) (started : os.Started) (H : Type) (enc : TypeId × Value → H) :
    ReturnsInHanded {} Try.checked os 3 .any (Rows.wholeShapesSpec.pre6 enc Try.prog Try.f3 Rows.wholeShapesRow.domain false) (Rows.wholeShapesSpec.post enc Try.prog Try.f3 false true false false) := by
  refine returnsInHanded_of_change (C := Try.checked) Try.own started (by kernel_rfl) Try.func3
    (ChangeSpec.witness6 (enc := enc) (C := Try.checked) false ⟨#[], #[.agg #[.bool false, .slice none 0 0], .agg #[.bool false, .slice none 0 0], .int .i64 0], []⟩ 8 (by kernel_rfl) (by kernel_rfl) (by kernel_rfl) (by kernel_rfl)) ?_
  intro W base args ds gs before hval0 hW _ _
  have hval : ∀ (j : Nat) t v, Try.f3.params[j]? = some t → args[j]? = some v → Value.okWide Try.prog W .any base t v := hval0
  obtain ⟨p, q, hA0, hV, rfl, _, _⟩ := id hW
  have hA : DataW.TrodAll enc Try.prog W 0 (fun _ => true) true Try.f3.params.toList args.toList ds p := hA0
  rw [Try.params3] at hA hval
  obtain ⟨v0, vs0, d0, ds0, p0, q0, hargs, rfl, rfl, h0, r0⟩ := trodAll_cons hA
  obtain ⟨v1, vs1, d1, ds1, p1, q1, rfl, rfl, rfl, h1, r1⟩ := trodAll_cons r0
  obtain ⟨v2, vs2, d2, ds2, p2, q2, rfl, rfl, rfl, h2, r2⟩ := trodAll_cons r1
  obtain ⟨rfl, rfl, rfl⟩ := trodAll_nil r2
  obtain rfl : args = #[v0, v1, v2] := by cases args; simp_all
  obtain ⟨b0, w0, xs0, rfl, s0, a0⟩ := int_of_trod h0 (hval 0 24 v0 rfl rfl)
  obtain ⟨b1, w1, xs1, rfl, s1, a1⟩ := int_of_trod h1 (hval 1 24 v1 rfl rfl)
  obtain ⟨n2, rfl, rfl, rfl, f2⟩ := open_int Try.underlying3 (hval 2 3 v2 rfl rfl) h2
  refine (walk s0 a0 s1 a1 n2 (wf_lo f2) (wf_hi f2)).mono fun e W' ⟨he, hg⟩ => ?_
  subst he
  refine ⟨_, rfl, law_post Try.laidOut rfl (by kernel_rfl) Try.underlying4 ?_ ?_ hW hg⟩
  · rw [Try.params3]; decide +kernel
  · rw [Try.params3]
    intro ds h
    match ds, h with
    | [_, _, _], _ => rfl

theorem holds : Rows.WholeShapesSaid :=
  OpenClaim.holds_of_wide 3 Try.f3 rfl rfl rfl rfl rfl rfl rfl ⟨rfl, rfl, rfl, rfl, rfl⟩ rfl rfl rfl rfl rfl (by kernel_rfl) Try.func3 (by kernel_rfl)
    (of_decide_eq_true (by kernel_rfl)) (by unfold Func.isWrapper; first | (rw [if_pos (by decide +kernel)]; kernel_rfl) | (rw [if_neg (by decide +kernel)]; exact ⟨rfl, rfl⟩))
    (fun os started H enc _ => lifted os started H enc)

end Go.Proofs.Ytckhcijknfkghaa.wshapes
