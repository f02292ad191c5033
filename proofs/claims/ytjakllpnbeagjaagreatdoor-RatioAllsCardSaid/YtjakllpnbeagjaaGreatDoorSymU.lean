/- More calls of the symbolic walk: bytes as numbers, the reference's rows. -/
import Derived.Test.YtjakllpnbeagjaaGreatDoorSymT
namespace Go.Proofs.YtjakllpnbeagjaaGreatDoor
/-- The reference's digits of X. -/
def DecS (w : World) (v : Value) (X : Nat) : Prop := Sl w .i64 v (dig 10000 X)
theorem DecS.kp {w w' : World} {v : Value} {X : Nat} (h : DecS w v X) (g : Kp w w') : DecS w' v X := Sl.kp h g
theorem DecS.nil (w : World) : DecS w (.slice none 0 0) 0 := Sl.nil w .i64
end Go.Proofs.YtjakllpnbeagjaaGreatDoor
namespace Go.Proofs.YtjakllpnbeagjaaGreatDoor.Sym
open Go.RowKit
theorem ph_app {l m : List (World → Value → Prop)} {p : Nat} (h : p < l.length) : ph (l ++ m) p = ph l p := by
  simp only [ph, List.getD_eq_getElem?_getD, List.getElem?_append_left h]
def mConv (a b : TypeId) : Op → Option (List Operand)
  | .convert s d x => if s = a ∧ d = b then some [x] else none
  | _ => none
section
variable {P : Program} {Φ : Nat → World → Value → Prop} {p q x : Nat} {s : ByteArray}
theorem qAddC' {a b c : Int} (hp : ∀ w v, Φ p w v → v = .int .i64 a) (hc : a + b = c) (hx : Φ x = fun _ v => v = .int .i64 c) (h1 : -9223372036854775808 ≤ c) (h2 : c ≤ 9223372036854775807) : SiteOk Φ P ⟨0, [.fact p, .lit (.ci .i64 b)], [⟨.one .i, [(0, 0, x)]⟩], .quiet (mBin .add)⟩ := by
  subst hc; exact qAddC hp hx h1 h2
theorem qSubN {k : IntKind} {a b c : Int} (hp : ∀ w v, Φ p w v → v = .int k a) (hc : k.wrap (a - b) = c) (hx : Φ x = fun _ v => v = .int k c) : SiteOk Φ P ⟨0, [.fact p, .lit (.ci k b)], [⟨.one .nk, [(0, 0, x)]⟩], .quiet (mBin .sub)⟩ := fun X w ac o xs _ hm ha => by
  obtain ⟨t, y, z, yt, ho, rfl⟩ := mBin_op hm
  subst hc
  refine ⟨.int k (k.wrap (a - b)), w, bin_run' ho (hp _ _ (ha.1 w (Off.refl _ _))) ha.2.1 (by simp) (by simp) ?_, grown_refl w none, ⟨⟨⟨⟨_, _, rfl⟩, fun _ h => by cases h⟩, fun r hr w1 hw => ?_⟩, trivial⟩⟩
  · show (binOp .sub t (.int k a) (.int k b)).run P w = _
    simp [binOp, Op.intArith]
  · simp only [List.mem_singleton] at hr; subst hr
    show Φ x w1 _; rw [hx]; rfl
theorem qConvI {A B : TypeId} {k : IntKind} {a : Int} (hA : (P.underlying A).isSome = true) (hB : P.underlying B = some (.int .i64)) (hp : ∀ w v, Φ p w v → v = .int k a) (h1 : -9223372036854775808 ≤ a) (h2 : a ≤ 9223372036854775807) (hx : Φ x = fun _ v => v = .int .i64 a) : SiteOk Φ P ⟨0, [.fact p], [⟨.one .i, [(0, 0, x)]⟩], .quiet (mConv A B)⟩ := fun X w ac o xs _ hm ha => by
  unfold mConv at hm
  split at hm
  case h_2 => cases hm
  rename_i sA dB y ho
  split at hm
  case isFalse => cases hm
  rename_i hc
  obtain ⟨rfl, rfl⟩ := hc
  simp only [Option.some.injEq] at hm
  subst hm
  have hv : ac.eval y = .int k a := hp _ _ (ha.1 w (Off.refl _ _))
  refine ⟨.int .i64 a, w, ?_, grown_refl w none, ⟨⟨⟨⟨_, rfl⟩, fun _ h => by cases h⟩, fun r hr w1 hw => ?_⟩, trivial⟩⟩
  · unfold execOp
    obtain ⟨d, hd⟩ := Option.isSome_iff_exists.mp hA
    have hr : (convert sA dB (.int k a)).run P w = .ok (.int .i64 a) w := by
      simp [convert, run_underlying hd, run_underlying hB, Conv.intToInt, IntWalk.i64_in a ⟨h1, h2⟩]
    simp [ho, hv, hr]
  · simp only [List.mem_singleton] at hr; subst hr
    show Φ x w1 _; rw [hx]; rfl
end
section
variable {Φ : Nat → World → Value → Prop} {p q x X c : Nat}
theorem tMulAdd (m : Nat) {mi : Int} (hm : (m : Int) = mi) (hp : ∀ w v, Φ p w v → DecS w v X) (hq : ∀ w v, Φ q w v → v = .int .i64 (c : Int)) (hc : m ≤ 65536 ∧ c ≤ 65536) (hl : (dig 10000 X).length ≤ 8796093022208) (hx : Φ x = fun w v => DecS w v (X * m + c)) :
    SiteOk Φ Tryz.prog ⟨52, [.fact p, .lit (.ci .i64 mi), .fact q], [⟨.one .s, [(0, 0, x)]⟩], false⟩ := fun Y w vs _ ha => by
  subst hm
  match vs, ha with
  | [v, u, t], ha =>
    have h1 := hp _ _ (get ha.1)
    have h2 : u = .int .i64 (m : Int) := ha.2.1
    have h3 := hq _ _ (get ha.2.2.1)
    subst h2 h3
    refine (RmulAdd_n m c h1 hc.1 hc.2 hl).mono fun e w' h => ?_
    obtain ⟨v', rfl, ho, hg⟩ := h
    obtain ⟨pp, cap, rfl⟩ := ho.slice
    exact ⟨hg, [_], rfl, o1 (F := fun w v => DecS w v (X * m + c)) (fun _ _ _ g h => DecS.kp h g) hx ⟨⟨_, _, _, rfl⟩, fun _ h => by cases h⟩ ho.sl, trivial⟩
theorem tMade {b : Bool} {z : Int} {k : Nat} (hp : ∀ w v, Φ p w v → DecS w v X) (hz : sg b X = z) (hb : Bd X k) (hx : Φ x = fun w v => DecI w v z k) : SiteOk Φ Tryz.prog ⟨45, [.fact p, .lit (.cb b)], [⟨dS, [(0, 0, x)]⟩], false⟩ := site2 fun Y w v u g1 g2 => by
  have h1 := hp _ _ (get g1)
  have h2 : u = .bool b := g2
  subst h2
  obtain ⟨pp, cap, rfl, h3⟩ := id h1
  refine (made_any b _ _ _ w).mono fun e w' h => ?_
  obtain ⟨rfl, hg⟩ := h
  subst hz
  have hD : DecI w' (.agg #[.slice pp (dig 10000 X).length cap, .bool (b && decide (0 < (dig 10000 X).length))]) (sg b X) k := by
    refine ⟨pp, cap, ?_, ?_⟩
    · rw [sg_neg, sg_abs, dig_some _ _ (by omega)]
    · rw [sg_abs]; exact ⟨h1.grown hg (.inl rfl), hb⟩
  exact pstD hx ⟨_, _, _, _, rfl, hD, hg⟩
end
end Go.Proofs.YtjakllpnbeagjaaGreatDoor.Sym
