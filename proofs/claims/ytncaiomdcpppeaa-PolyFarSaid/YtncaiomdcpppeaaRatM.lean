/- Ratio's greatest of three. -/
import Derived.Test.YtncaiomdcpppeaaSymQ
namespace Go.Proofs.Ytncaiomdcpppeaa.Sym
open Go.RowKit
section
variable {Φ : Nat → World → Value → Prop}
def els : List (World → Value → Prop) → Nat → World → Value → Prop
  | [], _ => fun _ _ => True
  | F :: _, 0 => F
  | _ :: l, i + 1 => els l i
theorem Arr.is {sz n : Nat} {F : Nat → World → Value → Prop} {w : World} {v : Value} (h : Arr sz F n w v) : (CSh.one .s).is v := by
  obtain ⟨p, c, rfl, _⟩ := h
  exact ⟨⟨_, _, _, rfl⟩, fun _ h => by cases h⟩
theorem sRCmpJ {p q x i j : Nat} {z y : Rat} {t : Int} (hp : ∀ w v, Φ p w v → RatV w v z i) (hq : ∀ w v, Φ q w v → RatV w v y j) (hx : Φ x = fun _ v => v = .int .i64 t) (hi : i + j ≤ 100000) (hr : cmpQ z y = t) : SiteOk Φ Try.prog ⟨114, [.fact p, .fact q], [⟨.one .i, [(0, 0, x)]⟩], false⟩ :=
  site2 fun _ _ _ _ h0 h1 => (RCmp_g (hp _ _ (get h0)) (hq _ _ (get h1)) t hi hr).mono fun _ _ h => pstJ hx h
/-- The greatest of three. -/
def max3 (q r s : Rat) : Rat := if cmpQ s (if cmpQ r q > 0 then r else q) > 0 then s else if cmpQ r q > 0 then r else q
theorem cell_off {X : Nat → Prop} {w w' : World} {a : Addr} {x : Value} (g : Off X w w') (hX : ¬ X a.block) (h : w.cell? a = some x) : w'.cell? a = some x := by
  rw [World.cell?_of_block (g.2 a.block (cell_lt h) hX)]; exact h
def phi_max_tt (z0 y0 z1 y1 z2 y2 : Int) (t : Rat) (i j l : Nat) : List (World → Value → Prop) := [fun w v => QV w v z0 y0 i, fun w v => IntV w v z0 i, fun w v => IntV w v y0 i, fun w v => Arr 4 (els [fun w v => QV w v z1 y1 j, fun w v => QV w v z2 y2 l]) 2 w v, fun w v => Ptr 4 (fun w v => QV w v z1 y1 j) w v, fun w v => QV w v z1 y1 j, fun _ v => v = .int .i64 (cmpQ (qOf z1 y1) (qOf z0 y0)), fun w v => Ptr 4 (fun w v => QV w v z2 y2 l) w v, fun w v => QV w v z2 y2 l, fun _ v => v = .int .i64 (cmpQ (qOf z2 y2) (qOf z1 y1)), fun w v => IntV w v (pN z2 y2) (l + 2), fun w v => IntV w v (pD y2) (l + 2), fun w v => NorQ w v t (i + j + l + 2), fun w v => NorV w v t.num (i + j + l + 2), fun w v => NorV w v (t.den : Int) (i + j + l + 2)]
def ins_max_tt : List Out := [⟨.agg [.b, .s, .b, .s], [(0, 0, 0), (0, 2, 1), (2, 2, 2)]⟩, ⟨.one (.s), [(0, 0, 3)]⟩]
def ss_max_tt : List Step := [.base ⟨0, [.fact 3], [⟨.one (.lit (.ci .i64 2)), []⟩], .quiet (mLen 125)⟩,
      .rounds 3,
      .base ⟨0, [.fact 3, .lit (.ci .i64 0)], [⟨.one (.p), [(0, 0, 4)]⟩], .quiet (mIdx 125)⟩,
      .base ⟨0, [.fact 4], [⟨.agg [.b, .s, .b, .s], [(0, 0, 5)]⟩], .quiet (mLoad 73)⟩,
      .base ⟨114, [.fact 5, .fact 0], [⟨.one (.i), [(0, 0, 6)]⟩], false⟩,
      .base ⟨0, [.fact 6, .lit (.ci .i64 0)], [⟨.one (.lit (.cb true)), []⟩], .quiet (mBin .gtr)⟩,
      .base ⟨0, [.fact 3, .lit (.ci .i64 1)], [⟨.one (.p), [(0, 0, 7)]⟩], .quiet (mIdx 125)⟩,
      .base ⟨0, [.fact 7], [⟨.agg [.b, .s, .b, .s], [(0, 0, 8)]⟩], .quiet (mLoad 73)⟩,
      .base ⟨114, [.fact 8, .fact 5], [⟨.one (.i), [(0, 0, 9)]⟩], false⟩,
      .base ⟨0, [.fact 9, .lit (.ci .i64 0)], [⟨.one (.lit (.cb true)), []⟩], .quiet (mBin .gtr)⟩,
      .base ⟨116, [.fact 8], [⟨.agg [.b, .s], [(0, 0, 10)]⟩, ⟨.agg [.b, .s], [(0, 0, 11)]⟩], true⟩,
      .base ⟨115, [.fact 10, .fact 11], [⟨.agg [.b, .s, .b, .s], [(0, 0, 12), (0, 2, 13), (2, 2, 14)]⟩], false⟩]
set_option maxRecDepth 100000 in
theorem max_tt {z0 y0 z1 y1 z2 y2 : Int} {t : Rat} {i j l : Nat} (hk : i + j + l ≤ 90000) (h1 : cmpQ (qOf z1 y1) (qOf z0 y0) > 0) (h2 : cmpQ (qOf z2 y2) (qOf z1 y1) > 0) (ht : qOf z2 y2 = t) : SiteOk (ph (phi_max_tt z0 y0 z1 y1 z2 y2 t i j l)) Try.prog ⟨103, [.fact 0, .fact 3], [⟨.agg [.b, .s, .b, .s], [(0, 0, 12)]⟩], false⟩ :=
  fn_okL ins_max_tt [⟨.agg [.b, .s, .b, .s], [(0, 0, 12)]⟩] ss_max_tt Try.func103 (by kernel_rfl)
    (lbase (qLenC (n := 2) rfl Try.underlying125 (fun _ _ h => h))
      (lrounds (lbase (qIdxC (n := 2) 0 Try.underlying125 (by kernel_rfl) (fun _ _ h => h) rfl (by decide) rfl)
      (lbase (qLoad (sz := 4) (F := fun w v => QV w v z1 y1 j) (by kernel_rfl) (by kernel_rfl) (fun _ _ h => h) (fun _ _ _ g h => QV.kp h g) (fun _ _ h => QV.is h) rfl)
      (lbase (sRCmpJ vQ vQ rfl (by omega) rfl)
      (lbase (qTestC (fun _ _ h => h) (gtr_run (decide_eq_true h1)))
      (lbase (qIdxC (n := 2) 1 Try.underlying125 (by kernel_rfl) (fun _ _ h => h) rfl (by decide) rfl)
      (lbase (qLoad (sz := 4) (F := fun w v => QV w v z2 y2 l) (by kernel_rfl) (by kernel_rfl) (fun _ _ h => h) (fun _ _ _ g h => QV.kp h g) (fun _ _ h => QV.is h) rfl)
      (lbase (sRCmpJ vQ vQ rfl (by omega) rfl)
      (lbase (qTestC (fun _ _ h => h) (gtr_run (decide_eq_true h2)))
      (lbase (sParts (fun _ _ h => h) rfl rfl (by omega))
      (lbase (sLowest (i + j + l + 2) iI iI rfl rfl rfl (by omega) (by omega) (by omega) (pD_ne _) (by rw [← ht, qOf_parts]))
      lnil))))))))))))
    (ins_ok [.sub 0 (.agg [.b, .s, .b, .s]) [(0, 2, 1), (2, 2, 2)], .fact 3 (.one (.s))] ⟨⟨fun _ _ h => QV.is h, fun _ _ h => QV.fst h, fun _ _ h => QV.snd h, trivial⟩, fun _ _ h => Arr.is h, trivial⟩) (fun _ _ _ h => h)

def phi_max_tf (z0 y0 z1 y1 z2 y2 : Int) (t : Rat) (i j l : Nat) : List (World → Value → Prop) := [fun w v => QV w v z0 y0 i, fun w v => IntV w v z0 i, fun w v => IntV w v y0 i, fun w v => Arr 4 (els [fun w v => QV w v z1 y1 j, fun w v => QV w v z2 y2 l]) 2 w v, fun w v => Ptr 4 (fun w v => QV w v z1 y1 j) w v, fun w v => QV w v z1 y1 j, fun _ v => v = .int .i64 (cmpQ (qOf z1 y1) (qOf z0 y0)), fun w v => Ptr 4 (fun w v => QV w v z2 y2 l) w v, fun w v => QV w v z2 y2 l, fun _ v => v = .int .i64 (cmpQ (qOf z2 y2) (qOf z1 y1)), fun w v => IntV w v (pN z1 y1) (j + 2), fun w v => IntV w v (pD y1) (j + 2), fun w v => NorQ w v t (i + j + l + 2), fun w v => NorV w v t.num (i + j + l + 2), fun w v => NorV w v (t.den : Int) (i + j + l + 2)]
def ins_max_tf : List Out := [⟨.agg [.b, .s, .b, .s], [(0, 0, 0), (0, 2, 1), (2, 2, 2)]⟩, ⟨.one (.s), [(0, 0, 3)]⟩]
def ss_max_tf : List Step := [.base ⟨0, [.fact 3], [⟨.one (.lit (.ci .i64 2)), []⟩], .quiet (mLen 125)⟩,
      .rounds 3,
      .base ⟨0, [.fact 3, .lit (.ci .i64 0)], [⟨.one (.p), [(0, 0, 4)]⟩], .quiet (mIdx 125)⟩,
      .base ⟨0, [.fact 4], [⟨.agg [.b, .s, .b, .s], [(0, 0, 5)]⟩], .quiet (mLoad 73)⟩,
      .base ⟨114, [.fact 5, .fact 0], [⟨.one (.i), [(0, 0, 6)]⟩], false⟩,
      .base ⟨0, [.fact 6, .lit (.ci .i64 0)], [⟨.one (.lit (.cb true)), []⟩], .quiet (mBin .gtr)⟩,
      .base ⟨0, [.fact 3, .lit (.ci .i64 1)], [⟨.one (.p), [(0, 0, 7)]⟩], .quiet (mIdx 125)⟩,
      .base ⟨0, [.fact 7], [⟨.agg [.b, .s, .b, .s], [(0, 0, 8)]⟩], .quiet (mLoad 73)⟩,
      .base ⟨114, [.fact 8, .fact 5], [⟨.one (.i), [(0, 0, 9)]⟩], false⟩,
      .base ⟨0, [.fact 9, .lit (.ci .i64 0)], [⟨.one (.lit (.cb false)), []⟩], .quiet (mBin .gtr)⟩,
      .base ⟨116, [.fact 5], [⟨.agg [.b, .s], [(0, 0, 10)]⟩, ⟨.agg [.b, .s], [(0, 0, 11)]⟩], true⟩,
      .base ⟨115, [.fact 10, .fact 11], [⟨.agg [.b, .s, .b, .s], [(0, 0, 12), (0, 2, 13), (2, 2, 14)]⟩], false⟩]
set_option maxRecDepth 100000 in
theorem max_tf {z0 y0 z1 y1 z2 y2 : Int} {t : Rat} {i j l : Nat} (hk : i + j + l ≤ 90000) (h1 : cmpQ (qOf z1 y1) (qOf z0 y0) > 0) (h2 : ¬ cmpQ (qOf z2 y2) (qOf z1 y1) > 0) (ht : qOf z1 y1 = t) : SiteOk (ph (phi_max_tf z0 y0 z1 y1 z2 y2 t i j l)) Try.prog ⟨103, [.fact 0, .fact 3], [⟨.agg [.b, .s, .b, .s], [(0, 0, 12)]⟩], false⟩ :=
  fn_okL ins_max_tf [⟨.agg [.b, .s, .b, .s], [(0, 0, 12)]⟩] ss_max_tf Try.func103 (by kernel_rfl)
    (lbase (qLenC (n := 2) rfl Try.underlying125 (fun _ _ h => h))
      (lrounds (lbase (qIdxC (n := 2) 0 Try.underlying125 (by kernel_rfl) (fun _ _ h => h) rfl (by decide) rfl)
      (lbase (qLoad (sz := 4) (F := fun w v => QV w v z1 y1 j) (by kernel_rfl) (by kernel_rfl) (fun _ _ h => h) (fun _ _ _ g h => QV.kp h g) (fun _ _ h => QV.is h) rfl)
      (lbase (sRCmpJ vQ vQ rfl (by omega) rfl)
      (lbase (qTestC (fun _ _ h => h) (gtr_run (decide_eq_true h1)))
      (lbase (qIdxC (n := 2) 1 Try.underlying125 (by kernel_rfl) (fun _ _ h => h) rfl (by decide) rfl)
      (lbase (qLoad (sz := 4) (F := fun w v => QV w v z2 y2 l) (by kernel_rfl) (by kernel_rfl) (fun _ _ h => h) (fun _ _ _ g h => QV.kp h g) (fun _ _ h => QV.is h) rfl)
      (lbase (sRCmpJ vQ vQ rfl (by omega) rfl)
      (lbase (qTestC (fun _ _ h => h) (gtr_run (decide_eq_false h2)))
      (lbase (sParts (fun _ _ h => h) rfl rfl (by omega))
      (lbase (sLowest (i + j + l + 2) iI iI rfl rfl rfl (by omega) (by omega) (by omega) (pD_ne _) (by rw [← ht, qOf_parts]))
      lnil))))))))))))
    (ins_ok [.sub 0 (.agg [.b, .s, .b, .s]) [(0, 2, 1), (2, 2, 2)], .fact 3 (.one (.s))] ⟨⟨fun _ _ h => QV.is h, fun _ _ h => QV.fst h, fun _ _ h => QV.snd h, trivial⟩, fun _ _ h => Arr.is h, trivial⟩) (fun _ _ _ h => h)

def phi_max_ft (z0 y0 z1 y1 z2 y2 : Int) (t : Rat) (i j l : Nat) : List (World → Value → Prop) := [fun w v => QV w v z0 y0 i, fun w v => IntV w v z0 i, fun w v => IntV w v y0 i, fun w v => Arr 4 (els [fun w v => QV w v z1 y1 j, fun w v => QV w v z2 y2 l]) 2 w v, fun w v => Ptr 4 (fun w v => QV w v z1 y1 j) w v, fun w v => QV w v z1 y1 j, fun _ v => v = .int .i64 (cmpQ (qOf z1 y1) (qOf z0 y0)), fun w v => Ptr 4 (fun w v => QV w v z2 y2 l) w v, fun w v => QV w v z2 y2 l, fun _ v => v = .int .i64 (cmpQ (qOf z2 y2) (qOf z0 y0)), fun w v => IntV w v (pN z2 y2) (l + 2), fun w v => IntV w v (pD y2) (l + 2), fun w v => NorQ w v t (i + j + l + 2), fun w v => NorV w v t.num (i + j + l + 2), fun w v => NorV w v (t.den : Int) (i + j + l + 2)]
def ins_max_ft : List Out := [⟨.agg [.b, .s, .b, .s], [(0, 0, 0), (0, 2, 1), (2, 2, 2)]⟩, ⟨.one (.s), [(0, 0, 3)]⟩]
def ss_max_ft : List Step := [.base ⟨0, [.fact 3], [⟨.one (.lit (.ci .i64 2)), []⟩], .quiet (mLen 125)⟩,
      .rounds 3,
      .base ⟨0, [.fact 3, .lit (.ci .i64 0)], [⟨.one (.p), [(0, 0, 4)]⟩], .quiet (mIdx 125)⟩,
      .base ⟨0, [.fact 4], [⟨.agg [.b, .s, .b, .s], [(0, 0, 5)]⟩], .quiet (mLoad 73)⟩,
      .base ⟨114, [.fact 5, .fact 0], [⟨.one (.i), [(0, 0, 6)]⟩], false⟩,
      .base ⟨0, [.fact 6, .lit (.ci .i64 0)], [⟨.one (.lit (.cb false)), []⟩], .quiet (mBin .gtr)⟩,
      .base ⟨0, [.fact 3, .lit (.ci .i64 1)], [⟨.one (.p), [(0, 0, 7)]⟩], .quiet (mIdx 125)⟩,
      .base ⟨0, [.fact 7], [⟨.agg [.b, .s, .b, .s], [(0, 0, 8)]⟩], .quiet (mLoad 73)⟩,
      .base ⟨114, [.fact 8, .fact 0], [⟨.one (.i), [(0, 0, 9)]⟩], false⟩,
      .base ⟨0, [.fact 9, .lit (.ci .i64 0)], [⟨.one (.lit (.cb true)), []⟩], .quiet (mBin .gtr)⟩,
      .base ⟨116, [.fact 8], [⟨.agg [.b, .s], [(0, 0, 10)]⟩, ⟨.agg [.b, .s], [(0, 0, 11)]⟩], true⟩,
      .base ⟨115, [.fact 10, .fact 11], [⟨.agg [.b, .s, .b, .s], [(0, 0, 12), (0, 2, 13), (2, 2, 14)]⟩], false⟩]
set_option maxRecDepth 100000 in
theorem max_ft {z0 y0 z1 y1 z2 y2 : Int} {t : Rat} {i j l : Nat} (hk : i + j + l ≤ 90000) (h1 : ¬ cmpQ (qOf z1 y1) (qOf z0 y0) > 0) (h2 : cmpQ (qOf z2 y2) (qOf z0 y0) > 0) (ht : qOf z2 y2 = t) : SiteOk (ph (phi_max_ft z0 y0 z1 y1 z2 y2 t i j l)) Try.prog ⟨103, [.fact 0, .fact 3], [⟨.agg [.b, .s, .b, .s], [(0, 0, 12)]⟩], false⟩ :=
  fn_okL ins_max_ft [⟨.agg [.b, .s, .b, .s], [(0, 0, 12)]⟩] ss_max_ft Try.func103 (by kernel_rfl)
    (lbase (qLenC (n := 2) rfl Try.underlying125 (fun _ _ h => h))
      (lrounds (lbase (qIdxC (n := 2) 0 Try.underlying125 (by kernel_rfl) (fun _ _ h => h) rfl (by decide) rfl)
      (lbase (qLoad (sz := 4) (F := fun w v => QV w v z1 y1 j) (by kernel_rfl) (by kernel_rfl) (fun _ _ h => h) (fun _ _ _ g h => QV.kp h g) (fun _ _ h => QV.is h) rfl)
      (lbase (sRCmpJ vQ vQ rfl (by omega) rfl)
      (lbase (qTestC (fun _ _ h => h) (gtr_run (decide_eq_false h1)))
      (lbase (qIdxC (n := 2) 1 Try.underlying125 (by kernel_rfl) (fun _ _ h => h) rfl (by decide) rfl)
      (lbase (qLoad (sz := 4) (F := fun w v => QV w v z2 y2 l) (by kernel_rfl) (by kernel_rfl) (fun _ _ h => h) (fun _ _ _ g h => QV.kp h g) (fun _ _ h => QV.is h) rfl)
      (lbase (sRCmpJ vQ vQ rfl (by omega) rfl)
      (lbase (qTestC (fun _ _ h => h) (gtr_run (decide_eq_true h2)))
      (lbase (sParts (fun _ _ h => h) rfl rfl (by omega))
      (lbase (sLowest (i + j + l + 2) iI iI rfl rfl rfl (by omega) (by omega) (by omega) (pD_ne _) (by rw [← ht, qOf_parts]))
      lnil))))))))))))
    (ins_ok [.sub 0 (.agg [.b, .s, .b, .s]) [(0, 2, 1), (2, 2, 2)], .fact 3 (.one (.s))] ⟨⟨fun _ _ h => QV.is h, fun _ _ h => QV.fst h, fun _ _ h => QV.snd h, trivial⟩, fun _ _ h => Arr.is h, trivial⟩) (fun _ _ _ h => h)

def phi_max_ff (z0 y0 z1 y1 z2 y2 : Int) (t : Rat) (i j l : Nat) : List (World → Value → Prop) := [fun w v => QV w v z0 y0 i, fun w v => IntV w v z0 i, fun w v => IntV w v y0 i, fun w v => Arr 4 (els [fun w v => QV w v z1 y1 j, fun w v => QV w v z2 y2 l]) 2 w v, fun w v => Ptr 4 (fun w v => QV w v z1 y1 j) w v, fun w v => QV w v z1 y1 j, fun _ v => v = .int .i64 (cmpQ (qOf z1 y1) (qOf z0 y0)), fun w v => Ptr 4 (fun w v => QV w v z2 y2 l) w v, fun w v => QV w v z2 y2 l, fun _ v => v = .int .i64 (cmpQ (qOf z2 y2) (qOf z0 y0)), fun w v => IntV w v (pN z0 y0) (i + 2), fun w v => IntV w v (pD y0) (i + 2), fun w v => NorQ w v t (i + j + l + 2), fun w v => NorV w v t.num (i + j + l + 2), fun w v => NorV w v (t.den : Int) (i + j + l + 2)]
def ins_max_ff : List Out := [⟨.agg [.b, .s, .b, .s], [(0, 0, 0), (0, 2, 1), (2, 2, 2)]⟩, ⟨.one (.s), [(0, 0, 3)]⟩]
def ss_max_ff : List Step := [.base ⟨0, [.fact 3], [⟨.one (.lit (.ci .i64 2)), []⟩], .quiet (mLen 125)⟩,
      .rounds 3,
      .base ⟨0, [.fact 3, .lit (.ci .i64 0)], [⟨.one (.p), [(0, 0, 4)]⟩], .quiet (mIdx 125)⟩,
      .base ⟨0, [.fact 4], [⟨.agg [.b, .s, .b, .s], [(0, 0, 5)]⟩], .quiet (mLoad 73)⟩,
      .base ⟨114, [.fact 5, .fact 0], [⟨.one (.i), [(0, 0, 6)]⟩], false⟩,
      .base ⟨0, [.fact 6, .lit (.ci .i64 0)], [⟨.one (.lit (.cb false)), []⟩], .quiet (mBin .gtr)⟩,
      .base ⟨0, [.fact 3, .lit (.ci .i64 1)], [⟨.one (.p), [(0, 0, 7)]⟩], .quiet (mIdx 125)⟩,
      .base ⟨0, [.fact 7], [⟨.agg [.b, .s, .b, .s], [(0, 0, 8)]⟩], .quiet (mLoad 73)⟩,
      .base ⟨114, [.fact 8, .fact 0], [⟨.one (.i), [(0, 0, 9)]⟩], false⟩,
      .base ⟨0, [.fact 9, .lit (.ci .i64 0)], [⟨.one (.lit (.cb false)), []⟩], .quiet (mBin .gtr)⟩,
      .base ⟨116, [.fact 0], [⟨.agg [.b, .s], [(0, 0, 10)]⟩, ⟨.agg [.b, .s], [(0, 0, 11)]⟩], true⟩,
      .base ⟨115, [.fact 10, .fact 11], [⟨.agg [.b, .s, .b, .s], [(0, 0, 12), (0, 2, 13), (2, 2, 14)]⟩], false⟩]
set_option maxRecDepth 100000 in
theorem max_ff {z0 y0 z1 y1 z2 y2 : Int} {t : Rat} {i j l : Nat} (hk : i + j + l ≤ 90000) (h1 : ¬ cmpQ (qOf z1 y1) (qOf z0 y0) > 0) (h2 : ¬ cmpQ (qOf z2 y2) (qOf z0 y0) > 0) (ht : qOf z0 y0 = t) : SiteOk (ph (phi_max_ff z0 y0 z1 y1 z2 y2 t i j l)) Try.prog ⟨103, [.fact 0, .fact 3], [⟨.agg [.b, .s, .b, .s], [(0, 0, 12)]⟩], false⟩ :=
  fn_okL ins_max_ff [⟨.agg [.b, .s, .b, .s], [(0, 0, 12)]⟩] ss_max_ff Try.func103 (by kernel_rfl)
    (lbase (qLenC (n := 2) rfl Try.underlying125 (fun _ _ h => h))
      (lrounds (lbase (qIdxC (n := 2) 0 Try.underlying125 (by kernel_rfl) (fun _ _ h => h) rfl (by decide) rfl)
      (lbase (qLoad (sz := 4) (F := fun w v => QV w v z1 y1 j) (by kernel_rfl) (by kernel_rfl) (fun _ _ h => h) (fun _ _ _ g h => QV.kp h g) (fun _ _ h => QV.is h) rfl)
      (lbase (sRCmpJ vQ vQ rfl (by omega) rfl)
      (lbase (qTestC (fun _ _ h => h) (gtr_run (decide_eq_false h1)))
      (lbase (qIdxC (n := 2) 1 Try.underlying125 (by kernel_rfl) (fun _ _ h => h) rfl (by decide) rfl)
      (lbase (qLoad (sz := 4) (F := fun w v => QV w v z2 y2 l) (by kernel_rfl) (by kernel_rfl) (fun _ _ h => h) (fun _ _ _ g h => QV.kp h g) (fun _ _ h => QV.is h) rfl)
      (lbase (sRCmpJ vQ vQ rfl (by omega) rfl)
      (lbase (qTestC (fun _ _ h => h) (gtr_run (decide_eq_false h2)))
      (lbase (sParts (fun _ _ h => h) rfl rfl (by omega))
      (lbase (sLowest (i + j + l + 2) iI iI rfl rfl rfl (by omega) (by omega) (by omega) (pD_ne _) (by rw [← ht, qOf_parts]))
      lnil))))))))))))
    (ins_ok [.sub 0 (.agg [.b, .s, .b, .s]) [(0, 2, 1), (2, 2, 2)], .fact 3 (.one (.s))] ⟨⟨fun _ _ h => QV.is h, fun _ _ h => QV.fst h, fun _ _ h => QV.snd h, trivial⟩, fun _ _ h => Arr.is h, trivial⟩) (fun _ _ _ h => h)

theorem sMax3 {p p1 p2 x x1 x2 i j l : Nat} {z0 y0 z1 y1 z2 y2 : Int} {t : Rat} (hp : ∀ w v, Φ p w v → QV w v z0 y0 i) (hp1 : ∀ w v, Φ p1 w v → QV w v z1 y1 j) (hp2 : ∀ w v, Φ p2 w v → QV w v z2 y2 l) (hx : Φ x = fun w v => NorQ w v t (i + j + l + 2)) (hx1 : Φ x1 = fun w v => NorV w v t.num (i + j + l + 2)) (hx2 : Φ x2 = fun w v => NorV w v (t.den : Int) (i + j + l + 2))
    (hk : i + j + l ≤ 90000) (ht : max3 (qOf z0 y0) (qOf z1 y1) (qOf z2 y2) = t) : SiteOk Φ Try.prog ⟨103, [.fact p, .row 4 [p1, p2]], [⟨qS, [(0, 0, x), (0, 2, x1), (2, 2, x2)]⟩], false⟩ :=
  site2 fun X w v u h0 h1 => by
    have ha : ∀ w1, Off (fun _ => False) w w1 → Arr 4 (els [fun w v => QV w v z1 y1 j, fun w v => QV w v z2 y2 l]) 2 w1 u := by
      obtain ⟨g, rfl, ⟨l0, n0, c0, f0⟩, ⟨l1, n1, c1, f1⟩, _⟩ := h1
      intro w1 hw
      refine ⟨_, _, rfl, fun m hm => ⟨g, 0, rfl, ?_⟩⟩
      match m, hm with
      | 0, _ => exact ⟨l0, n0, fun j u hj => cell_off hw (fun h => h) (by simpa using c0 j u hj), hp1 _ _ (f0 w1 (hw.wide fun _ h => h.elim))⟩
      | 1, _ => exact ⟨l1, n1, fun j u hj => cell_off hw (fun h => h) (by simpa using c1 j u hj), hp2 _ _ (f1 w1 (hw.wide fun _ h => h.elim))⟩
    refine Calls.mono (R := GotQ w t (i + j + l + 2)) ?_ fun _ _ h => pstP hx hx1 hx2 h
    by_cases h1 : cmpQ (qOf z1 y1) (qOf z0 y0) > 0
    · by_cases h2 : cmpQ (qOf z2 y2) (qOf z1 y1) > 0
      · exact backP (max_tt (z0 := z0) (y0 := y0) (z1 := z1) (y1 := y1) (z2 := z2) (y2 := y2) (i := i) (j := j) (l := l) hk h1 h2 (by rw [← ht, max3, if_pos h1, if_pos h2])) rfl (vs := [v, u]) ⟨arg_kp rfl (fun _ _ _ g h => QV.kp h g) (hp _ _ (get h0)), fun w1 hw => ha w1 hw, trivial⟩
      · exact backP (max_tf (z0 := z0) (y0 := y0) (z1 := z1) (y1 := y1) (z2 := z2) (y2 := y2) (i := i) (j := j) (l := l) hk h1 h2 (by rw [← ht, max3, if_pos h1, if_neg h2])) rfl (vs := [v, u]) ⟨arg_kp rfl (fun _ _ _ g h => QV.kp h g) (hp _ _ (get h0)), fun w1 hw => ha w1 hw, trivial⟩
    · by_cases h2 : cmpQ (qOf z2 y2) (qOf z0 y0) > 0
      · exact backP (max_ft (z0 := z0) (y0 := y0) (z1 := z1) (y1 := y1) (z2 := z2) (y2 := y2) (i := i) (j := j) (l := l) hk h1 h2 (by rw [← ht, max3, if_neg h1, if_pos h2])) rfl (vs := [v, u]) ⟨arg_kp rfl (fun _ _ _ g h => QV.kp h g) (hp _ _ (get h0)), fun w1 hw => ha w1 hw, trivial⟩
      · exact backP (max_ff (z0 := z0) (y0 := y0) (z1 := z1) (y1 := y1) (z2 := z2) (y2 := y2) (i := i) (j := j) (l := l) hk h1 h2 (by rw [← ht, max3, if_neg h1, if_neg h2])) rfl (vs := [v, u]) ⟨arg_kp rfl (fun _ _ _ g h => QV.kp h g) (hp _ _ (get h0)), fun w1 hw => ha w1 hw, trivial⟩
end
end Go.Proofs.Ytncaiomdcpppeaa.Sym
