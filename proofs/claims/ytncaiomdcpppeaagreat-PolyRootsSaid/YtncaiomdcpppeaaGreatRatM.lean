/- Ratio's greatest of three. -/
import Derived.Test.YtncaiomdcpppeaaGreatSymQ
namespace Go.Proofs.YtncaiomdcpppeaaGreat.Sym
open Go.RowKit
section
variable {Φ : Nat → World → Value → Prop}
def els : List (World → Value → Prop) → Nat → World → Value → Prop
  | [], _ => fun _ _ => True
  | F :: _, 0 => F
  | _ :: l, i + 1 => els l i
theorem Arr.is {sz n : Nat} {F : Nat → World → Value → Prop} {w : World} {v : Value} (h : Arr sz F n w v) : (CSh.one .s).is v := by
  obtain ⟨p, c, rfl, _⟩ := h
  exact ⟨⟨_, _, _, rfl⟩, fun _ h => by cases h⟩
theorem sRCmpJ {p q x i j : Nat} {z y : Rat} {t : Int} (hp : ∀ w v, Φ p w v → RatV w v z i) (hq : ∀ w v, Φ q w v → RatV w v y j) (hx : Φ x = fun _ v => v = .int .i64 t) (hi : i + j ≤ 100000) (hr : cmpQ z y = t) : SiteOk Φ Tryz.prog ⟨45, [.fact p, .fact q], [⟨.one .i, [(0, 0, x)]⟩], false⟩ :=
  site2 fun _ _ _ _ h0 h1 => (RCmp_g (hp _ _ (get h0)) (hq _ _ (get h1)) t hi hr).mono fun _ _ h => pstJ hx h
/-- The greatest of three. -/
def max3 (q r s : Rat) : Rat := if cmpQ s (if cmpQ r q > 0 then r else q) > 0 then s else if cmpQ r q > 0 then r else q
def phi_max_tt (z0 y0 z1 y1 z2 y2 : Int) (t : Rat) (i j l : Nat) : List (World → Value → Prop) := [fun w v => QV w v z0 y0 i, fun w v => IntV w v z0 i, fun w v => IntV w v y0 i, fun w v => Arr 4 (els [fun w v => QV w v z1 y1 j, fun w v => QV w v z2 y2 l]) 2 w v, fun w v => Ptr 4 (fun w v => QV w v z1 y1 j) w v, fun w v => QV w v z1 y1 j, fun _ v => v = .int .i64 (cmpQ (qOf z1 y1) (qOf z0 y0)), fun w v => Ptr 4 (fun w v => QV w v z2 y2 l) w v, fun w v => QV w v z2 y2 l, fun _ v => v = .int .i64 (cmpQ (qOf z2 y2) (qOf z1 y1)), fun w v => IntV w v (pN z2 y2) (l + 2), fun w v => IntV w v (pD y2) (l + 2), fun w v => NorQ w v t (i + j + l + 2), fun w v => NorV w v t.num (i + j + l + 2), fun w v => NorV w v (t.den : Int) (i + j + l + 2)]
def ins_max_tt : List Out := [⟨.agg [.b, .s, .b, .s], [(0, 0, 0), (0, 2, 1), (2, 2, 2)]⟩, ⟨.one (.s), [(0, 0, 3)]⟩]
def ss_max_tt : List Step := [.base ⟨0, [.fact 3], [⟨.one (.lit (.ci .i64 2)), []⟩], .quiet (mLen 162)⟩,
      .rounds 3,
      .base ⟨0, [.fact 3, .lit (.ci .i64 0)], [⟨.one (.p), [(0, 0, 4)]⟩], .quiet (mIdx 162)⟩,
      .base ⟨0, [.fact 4], [⟨.agg [.b, .s, .b, .s], [(0, 0, 5)]⟩], .quiet (mLoad 28)⟩,
      .base ⟨45, [.fact 5, .fact 0], [⟨.one (.i), [(0, 0, 6)]⟩], false⟩,
      .base ⟨0, [.fact 6, .lit (.ci .i64 0)], [⟨.one (.lit (.cb true)), []⟩], .quiet (mBin .gtr)⟩,
      .base ⟨0, [.fact 3, .lit (.ci .i64 1)], [⟨.one (.p), [(0, 0, 7)]⟩], .quiet (mIdx 162)⟩,
      .base ⟨0, [.fact 7], [⟨.agg [.b, .s, .b, .s], [(0, 0, 8)]⟩], .quiet (mLoad 28)⟩,
      .base ⟨45, [.fact 8, .fact 5], [⟨.one (.i), [(0, 0, 9)]⟩], false⟩,
      .base ⟨0, [.fact 9, .lit (.ci .i64 0)], [⟨.one (.lit (.cb true)), []⟩], .quiet (mBin .gtr)⟩,
      .base ⟨102, [.fact 8], [⟨.agg [.b, .s], [(0, 0, 10)]⟩, ⟨.agg [.b, .s], [(0, 0, 11)]⟩], true⟩,
      .base ⟨103, [.fact 10, .fact 11], [⟨.agg [.b, .s, .b, .s], [(0, 0, 12), (0, 2, 13), (2, 2, 14)]⟩], false⟩]
def phi_max_tf (z0 y0 z1 y1 z2 y2 : Int) (t : Rat) (i j l : Nat) : List (World → Value → Prop) := [fun w v => QV w v z0 y0 i, fun w v => IntV w v z0 i, fun w v => IntV w v y0 i, fun w v => Arr 4 (els [fun w v => QV w v z1 y1 j, fun w v => QV w v z2 y2 l]) 2 w v, fun w v => Ptr 4 (fun w v => QV w v z1 y1 j) w v, fun w v => QV w v z1 y1 j, fun _ v => v = .int .i64 (cmpQ (qOf z1 y1) (qOf z0 y0)), fun w v => Ptr 4 (fun w v => QV w v z2 y2 l) w v, fun w v => QV w v z2 y2 l, fun _ v => v = .int .i64 (cmpQ (qOf z2 y2) (qOf z1 y1)), fun w v => IntV w v (pN z1 y1) (j + 2), fun w v => IntV w v (pD y1) (j + 2), fun w v => NorQ w v t (i + j + l + 2), fun w v => NorV w v t.num (i + j + l + 2), fun w v => NorV w v (t.den : Int) (i + j + l + 2)]
def ins_max_tf : List Out := [⟨.agg [.b, .s, .b, .s], [(0, 0, 0), (0, 2, 1), (2, 2, 2)]⟩, ⟨.one (.s), [(0, 0, 3)]⟩]
def ss_max_tf : List Step := [.base ⟨0, [.fact 3], [⟨.one (.lit (.ci .i64 2)), []⟩], .quiet (mLen 162)⟩,
      .rounds 3,
      .base ⟨0, [.fact 3, .lit (.ci .i64 0)], [⟨.one (.p), [(0, 0, 4)]⟩], .quiet (mIdx 162)⟩,
      .base ⟨0, [.fact 4], [⟨.agg [.b, .s, .b, .s], [(0, 0, 5)]⟩], .quiet (mLoad 28)⟩,
      .base ⟨45, [.fact 5, .fact 0], [⟨.one (.i), [(0, 0, 6)]⟩], false⟩,
      .base ⟨0, [.fact 6, .lit (.ci .i64 0)], [⟨.one (.lit (.cb true)), []⟩], .quiet (mBin .gtr)⟩,
      .base ⟨0, [.fact 3, .lit (.ci .i64 1)], [⟨.one (.p), [(0, 0, 7)]⟩], .quiet (mIdx 162)⟩,
      .base ⟨0, [.fact 7], [⟨.agg [.b, .s, .b, .s], [(0, 0, 8)]⟩], .quiet (mLoad 28)⟩,
      .base ⟨45, [.fact 8, .fact 5], [⟨.one (.i), [(0, 0, 9)]⟩], false⟩,
      .base ⟨0, [.fact 9, .lit (.ci .i64 0)], [⟨.one (.lit (.cb false)), []⟩], .quiet (mBin .gtr)⟩,
      .base ⟨102, [.fact 5], [⟨.agg [.b, .s], [(0, 0, 10)]⟩, ⟨.agg [.b, .s], [(0, 0, 11)]⟩], true⟩,
      .base ⟨103, [.fact 10, .fact 11], [⟨.agg [.b, .s, .b, .s], [(0, 0, 12), (0, 2, 13), (2, 2, 14)]⟩], false⟩]
def phi_max_ft (z0 y0 z1 y1 z2 y2 : Int) (t : Rat) (i j l : Nat) : List (World → Value → Prop) := [fun w v => QV w v z0 y0 i, fun w v => IntV w v z0 i, fun w v => IntV w v y0 i, fun w v => Arr 4 (els [fun w v => QV w v z1 y1 j, fun w v => QV w v z2 y2 l]) 2 w v, fun w v => Ptr 4 (fun w v => QV w v z1 y1 j) w v, fun w v => QV w v z1 y1 j, fun _ v => v = .int .i64 (cmpQ (qOf z1 y1) (qOf z0 y0)), fun w v => Ptr 4 (fun w v => QV w v z2 y2 l) w v, fun w v => QV w v z2 y2 l, fun _ v => v = .int .i64 (cmpQ (qOf z2 y2) (qOf z0 y0)), fun w v => IntV w v (pN z2 y2) (l + 2), fun w v => IntV w v (pD y2) (l + 2), fun w v => NorQ w v t (i + j + l + 2), fun w v => NorV w v t.num (i + j + l + 2), fun w v => NorV w v (t.den : Int) (i + j + l + 2)]
def ins_max_ft : List Out := [⟨.agg [.b, .s, .b, .s], [(0, 0, 0), (0, 2, 1), (2, 2, 2)]⟩, ⟨.one (.s), [(0, 0, 3)]⟩]
def ss_max_ft : List Step := [.base ⟨0, [.fact 3], [⟨.one (.lit (.ci .i64 2)), []⟩], .quiet (mLen 162)⟩,
      .rounds 3,
      .base ⟨0, [.fact 3, .lit (.ci .i64 0)], [⟨.one (.p), [(0, 0, 4)]⟩], .quiet (mIdx 162)⟩,
      .base ⟨0, [.fact 4], [⟨.agg [.b, .s, .b, .s], [(0, 0, 5)]⟩], .quiet (mLoad 28)⟩,
      .base ⟨45, [.fact 5, .fact 0], [⟨.one (.i), [(0, 0, 6)]⟩], false⟩,
      .base ⟨0, [.fact 6, .lit (.ci .i64 0)], [⟨.one (.lit (.cb false)), []⟩], .quiet (mBin .gtr)⟩,
      .base ⟨0, [.fact 3, .lit (.ci .i64 1)], [⟨.one (.p), [(0, 0, 7)]⟩], .quiet (mIdx 162)⟩,
      .base ⟨0, [.fact 7], [⟨.agg [.b, .s, .b, .s], [(0, 0, 8)]⟩], .quiet (mLoad 28)⟩,
      .base ⟨45, [.fact 8, .fact 0], [⟨.one (.i), [(0, 0, 9)]⟩], false⟩,
      .base ⟨0, [.fact 9, .lit (.ci .i64 0)], [⟨.one (.lit (.cb true)), []⟩], .quiet (mBin .gtr)⟩,
      .base ⟨102, [.fact 8], [⟨.agg [.b, .s], [(0, 0, 10)]⟩, ⟨.agg [.b, .s], [(0, 0, 11)]⟩], true⟩,
      .base ⟨103, [.fact 10, .fact 11], [⟨.agg [.b, .s, .b, .s], [(0, 0, 12), (0, 2, 13), (2, 2, 14)]⟩], false⟩]
def phi_max_ff (z0 y0 z1 y1 z2 y2 : Int) (t : Rat) (i j l : Nat) : List (World → Value → Prop) := [fun w v => QV w v z0 y0 i, fun w v => IntV w v z0 i, fun w v => IntV w v y0 i, fun w v => Arr 4 (els [fun w v => QV w v z1 y1 j, fun w v => QV w v z2 y2 l]) 2 w v, fun w v => Ptr 4 (fun w v => QV w v z1 y1 j) w v, fun w v => QV w v z1 y1 j, fun _ v => v = .int .i64 (cmpQ (qOf z1 y1) (qOf z0 y0)), fun w v => Ptr 4 (fun w v => QV w v z2 y2 l) w v, fun w v => QV w v z2 y2 l, fun _ v => v = .int .i64 (cmpQ (qOf z2 y2) (qOf z0 y0)), fun w v => IntV w v (pN z0 y0) (i + 2), fun w v => IntV w v (pD y0) (i + 2), fun w v => NorQ w v t (i + j + l + 2), fun w v => NorV w v t.num (i + j + l + 2), fun w v => NorV w v (t.den : Int) (i + j + l + 2)]
def ins_max_ff : List Out := [⟨.agg [.b, .s, .b, .s], [(0, 0, 0), (0, 2, 1), (2, 2, 2)]⟩, ⟨.one (.s), [(0, 0, 3)]⟩]
def ss_max_ff : List Step := [.base ⟨0, [.fact 3], [⟨.one (.lit (.ci .i64 2)), []⟩], .quiet (mLen 162)⟩,
      .rounds 3,
      .base ⟨0, [.fact 3, .lit (.ci .i64 0)], [⟨.one (.p), [(0, 0, 4)]⟩], .quiet (mIdx 162)⟩,
      .base ⟨0, [.fact 4], [⟨.agg [.b, .s, .b, .s], [(0, 0, 5)]⟩], .quiet (mLoad 28)⟩,
      .base ⟨45, [.fact 5, .fact 0], [⟨.one (.i), [(0, 0, 6)]⟩], false⟩,
      .base ⟨0, [.fact 6, .lit (.ci .i64 0)], [⟨.one (.lit (.cb false)), []⟩], .quiet (mBin .gtr)⟩,
      .base ⟨0, [.fact 3, .lit (.ci .i64 1)], [⟨.one (.p), [(0, 0, 7)]⟩], .quiet (mIdx 162)⟩,
      .base ⟨0, [.fact 7], [⟨.agg [.b, .s, .b, .s], [(0, 0, 8)]⟩], .quiet (mLoad 28)⟩,
      .base ⟨45, [.fact 8, .fact 0], [⟨.one (.i), [(0, 0, 9)]⟩], false⟩,
      .base ⟨0, [.fact 9, .lit (.ci .i64 0)], [⟨.one (.lit (.cb false)), []⟩], .quiet (mBin .gtr)⟩,
      .base ⟨102, [.fact 0], [⟨.agg [.b, .s], [(0, 0, 10)]⟩, ⟨.agg [.b, .s], [(0, 0, 11)]⟩], true⟩,
      .base ⟨103, [.fact 10, .fact 11], [⟨.agg [.b, .s, .b, .s], [(0, 0, 12), (0, 2, 13), (2, 2, 14)]⟩], false⟩]
end
end Go.Proofs.YtncaiomdcpppeaaGreat.Sym
