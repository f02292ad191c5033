/- ratio.Parse at every text. -/
import Derived.Test.YtjakllpnbeagjaaGreatDoorDigP
import Derived.Test.YtjakllpnbeagjaaGreatDoorRatN
namespace Go.Proofs.YtjakllpnbeagjaaGreatDoor
/-- What is said of the text of a rational: 0: one; 4: none; 2: one over 0. -/
def rTop (l : List UInt8) : List UInt8 := l.take (slashAt l)
def rUnd (l : List UInt8) : List UInt8 := l.drop (slashAt l + 1)
def rCode (l : List UInt8) : Nat :=
  if hasSlash l = true then (if isNum (rTop l) = true then (if (minusB (rUnd l) || !isNum (rUnd l)) = true then 4 else if sNum (rUnd l) = 0 then 2 else 0) else 4)
  else if isNum l = true then 0 else 4
def rQ (l : List UInt8) : Rat := if hasSlash l = true then Rat.divInt (sNum (rTop l)) (sNum (rUnd l)) else Rat.divInt (sNum l) 1
end Go.Proofs.YtjakllpnbeagjaaGreatDoor
namespace Go.Proofs.YtjakllpnbeagjaaGreatDoor.Sym
open Go.RowKit
def phi_nat_neg (s : ByteArray) : List (World → Value → Prop) := [fun _ v => v = .string s]
def ins_nat_neg : List Out := [⟨.one (.t), [(0, 0, 0)]⟩]
def ss_nat_neg : List Site := [⟨100, [.fact 0, .lit (.cs [45])], [⟨.one (.lit (.cb true)), []⟩], false⟩]
set_option maxRecDepth 100000 in
theorem nat_neg {s : ByteArray} (hm : minusB s.data.toList = true) : SiteOk (ph (phi_nat_neg s)) Tryz.prog ⟨67, [.fact 0], [⟨.agg [.lit (.cb false), .lit (.nl)], []⟩, ⟨.one (.lit (.ci .i64 4)), []⟩], true⟩ :=
  fn_ok ins_nat_neg [⟨.agg [.lit (.cb false), .lit (.nl)], []⟩, ⟨.one (.lit (.ci .i64 4)), []⟩] ss_nat_neg Tryz.func67 (by kernel_rfl)
    (all_cons (sHasPrefix (fun _ _ h => h) hm)
      all_nil)
    (ins_ok [.fact 0 (.one (.t))] ⟨fun _ _ h => IsT h, trivial⟩) (fun _ _ _ h => h)

def phi_nat_no (s : ByteArray) : List (World → Value → Prop) := [fun _ v => v = .string s]
def ins_nat_no : List Out := [⟨.one (.t), [(0, 0, 0)]⟩]
def ss_nat_no : List Site := [⟨100, [.fact 0, .lit (.cs [45])], [⟨.one (.lit (.cb false)), []⟩], false⟩,
      ⟨16, [.fact 0], [⟨.agg [.lit (.cb false), .lit (.nl)], []⟩, ⟨.one (.lit (.ci .i64 4)), []⟩], true⟩]
set_option maxRecDepth 100000 in
theorem nat_no {s : ByteArray} (hm : minusB s.data.toList = false) (h : isNum s.data.toList = false) : SiteOk (ph (phi_nat_no s)) Tryz.prog ⟨67, [.fact 0], [⟨.agg [.lit (.cb false), .lit (.nl)], []⟩, ⟨.one (.lit (.ci .i64 4)), []⟩], true⟩ :=
  fn_ok ins_nat_no [⟨.agg [.lit (.cb false), .lit (.nl)], []⟩, ⟨.one (.lit (.ci .i64 4)), []⟩] ss_nat_no Tryz.func67 (by kernel_rfl)
    (all_cons (sHasPrefix (fun _ _ h => h) hm)
      (all_cons (sDParseNo (fun _ _ h => h) h)
      all_nil))
    (ins_ok [.fact 0 (.one (.t))] ⟨fun _ _ h => IsT h, trivial⟩) (fun _ _ _ h => h)

def phi_nat_ok (s : ByteArray) (z : Int) : List (World → Value → Prop) := [fun _ v => v = .string s, fun w v => NorV w v z 50]
def ins_nat_ok : List Out := [⟨.one (.t), [(0, 0, 0)]⟩]
def ss_nat_ok : List Site := [⟨100, [.fact 0, .lit (.cs [45])], [⟨.one (.lit (.cb false)), []⟩], false⟩,
      ⟨16, [.fact 0], [⟨.agg [.b, .s], [(0, 0, 1)]⟩, ⟨.one (.lit (.ci .i64 0)), []⟩], true⟩]
set_option maxRecDepth 100000 in
theorem nat_ok {s : ByteArray} {z : Int} (hm : minusB s.data.toList = false) (h : isNum s.data.toList = true) (hz : sNum s.data.toList = z) : SiteOk (ph (phi_nat_ok s z)) Tryz.prog ⟨67, [.fact 0], [⟨.agg [.b, .s], [(0, 0, 1)]⟩, ⟨.one (.lit (.ci .i64 0)), []⟩], true⟩ :=
  fn_ok ins_nat_ok [⟨.agg [.b, .s], [(0, 0, 1)]⟩, ⟨.one (.lit (.ci .i64 0)), []⟩] ss_nat_ok Tryz.func67 (by kernel_rfl)
    (all_cons (sHasPrefix (fun _ _ h => h) hm)
      (all_cons (sDParse (fun _ _ h => h) h hz rfl)
      all_nil))
    (ins_ok [.fact 0 (.one (.t))] ⟨fun _ _ h => IsT h, trivial⟩) (fun _ _ _ h => h)

section
variable {Φ : Nat → World → Value → Prop} {p x : Nat} {s : ByteArray}
theorem sNatNo (hp : ∀ w v, Φ p w v → v = .string s) (h : (minusB s.data.toList || !isNum s.data.toList) = true) : SiteOk Φ Tryz.prog ⟨67, [.fact p], [⟨.agg [.lit (.cb false), .lit .nl], []⟩, ⟨.one (.lit (.ci .i64 4)), []⟩], true⟩ := by
  cases hm : minusB s.data.toList
  · rw [hm] at h
    exact viaT (nat_no hm (by simpa using h)) (fun w v h => hp w v h) outs_2
  · exact viaT (nat_neg hm) (fun w v h => hp w v h) outs_2
theorem sNat {z : Int} (hp : ∀ w v, Φ p w v → v = .string s) (hm : minusB s.data.toList = false) (h : isNum s.data.toList = true) (hz : sNum s.data.toList = z) (hx : Φ x = fun w v => NorV w v z 50) : SiteOk Φ Tryz.prog ⟨67, [.fact p], [⟨iS, [(0, 0, x)]⟩, ⟨.one (.lit (.ci .i64 0)), []⟩], true⟩ :=
  viaT (nat_ok hm h hz) (fun w v h => hp w v h) (outs_f (fun w v h => by rw [hx]; exact h))
theorem sNat1 (hx : Φ x = fun w v => NorV w v 1 50) : SiteOk Φ Tryz.prog ⟨67, [.lit (.cs [49])], [⟨iS, [(0, 0, x)]⟩, ⟨.one (.lit (.ci .i64 0)), []⟩], true⟩ := site1 fun X w v h => by
  have h3 : v = .string ⟨#[49]⟩ := h
  subst h3
  exact (Natural_plain (s := ⟨#[49]⟩) (by decide +kernel) (by decide) (by decide) (by decide +kernel)).mono fun _ _ h => pstIE hx h
end
def phi_rp_n0 (s : ByteArray) : List (World → Value → Prop) := [fun _ v => v = .string s, fun _ v => v = .string s]
def ins_rp_n0 : List Out := [⟨.one (.t), [(0, 0, 0)]⟩]
def ss_rp_n0 : List Site := [⟨66, [.fact 0, .lit (.cs [47])], [⟨.one (.t), [(0, 0, 1)]⟩, ⟨.one (.lit (.cs [])), []⟩, ⟨.one (.lit (.cb false)), []⟩], true⟩,
      ⟨16, [.fact 1], [⟨.agg [.lit (.cb false), .lit (.nl)], []⟩, ⟨.one (.lit (.ci .i64 4)), []⟩], true⟩]
set_option maxRecDepth 100000 in
theorem rp_n0 {s : ByteArray} (hc : hasSlash s.data.toList = false) (h : isNum s.data.toList = false) : SiteOk (ph (phi_rp_n0 s)) Tryz.prog ⟨35, [.fact 0], [⟨.agg [.lit (.cb false), .lit (.nl), .lit (.cb false), .lit (.nl)], []⟩, ⟨.one (.lit (.ci .i64 4)), []⟩], true⟩ :=
  fn_ok ins_rp_n0 [⟨.agg [.lit (.cb false), .lit (.nl), .lit (.cb false), .lit (.nl)], []⟩, ⟨.one (.lit (.ci .i64 4)), []⟩] ss_rp_n0 Tryz.func35 (by kernel_rfl)
    (all_cons (sCutNo (fun _ _ h => h) hc rfl)
      (all_cons (sDParseNo (fun _ _ h => h) h)
      all_nil))
    (ins_ok [.fact 0 (.one (.t))] ⟨fun _ _ h => IsT h, trivial⟩) (fun _ _ _ h => h)

def phi_rp_n1 (s : ByteArray) (z : Int) : List (World → Value → Prop) := [fun _ v => v = .string s, fun _ v => v = .string s, fun w v => NorV w v z 50, fun w v => NorV w v (1 : Int) 50, fun w v => NorQ w v (Rat.divInt z (1 : Int)) (50 + 50), fun w v => NorV w v ((Rat.divInt z (1 : Int)).num) (50 + 50), fun w v => NorV w v ((Rat.divInt z (1 : Int)).den : Int) (50 + 50)]
def ins_rp_n1 : List Out := [⟨.one (.t), [(0, 0, 0)]⟩]
def ss_rp_n1 : List Site := [⟨66, [.fact 0, .lit (.cs [47])], [⟨.one (.t), [(0, 0, 1)]⟩, ⟨.one (.lit (.cs [])), []⟩, ⟨.one (.lit (.cb false)), []⟩], true⟩,
      ⟨16, [.fact 1], [⟨.agg [.b, .s], [(0, 0, 2)]⟩, ⟨.one (.lit (.ci .i64 0)), []⟩], true⟩,
      ⟨67, [.lit (.cs [49])], [⟨.agg [.b, .s], [(0, 0, 3)]⟩, ⟨.one (.lit (.ci .i64 0)), []⟩], true⟩,
      ⟨68, [.fact 2, .fact 3], [⟨.agg [.b, .s, .b, .s], [(0, 0, 4), (0, 2, 5), (2, 2, 6)]⟩, ⟨.one (.lit (.ci .i64 0)), []⟩], true⟩]
set_option maxRecDepth 100000 in
theorem rp_n1 {s : ByteArray} {z : Int} (hc : hasSlash s.data.toList = false) (h : isNum s.data.toList = true) (hz : sNum s.data.toList = z) : SiteOk (ph (phi_rp_n1 s z)) Tryz.prog ⟨35, [.fact 0], [⟨.agg [.b, .s, .b, .s], [(0, 0, 4), (0, 2, 5), (2, 2, 6)]⟩, ⟨.one (.lit (.ci .i64 0)), []⟩], true⟩ :=
  fn_ok ins_rp_n1 [⟨.agg [.b, .s, .b, .s], [(0, 0, 4), (0, 2, 5), (2, 2, 6)]⟩, ⟨.one (.lit (.ci .i64 0)), []⟩] ss_rp_n1 Tryz.func35 (by kernel_rfl)
    (all_cons (sCutNo (fun _ _ h => h) hc rfl)
      (all_cons (sDParse (fun _ _ h => h) h hz rfl)
      (all_cons (sNat1 rfl)
      (all_cons (sRMake nI nI rfl rfl rfl (by omega) (by decide) rfl)
      all_nil))))
    (ins_ok [.fact 0 (.one (.t))] ⟨fun _ _ h => IsT h, trivial⟩) (fun _ _ _ h => h)

def phi_rp_y0 (s : ByteArray) (k : Nat) : List (World → Value → Prop) := [fun _ v => v = .string s, fun _ v => v = .string (s.extract 0 k), fun _ v => v = .string (s.extract (k + 1) s.size)]
def ins_rp_y0 : List Out := [⟨.one (.t), [(0, 0, 0)]⟩]
def ss_rp_y0 : List Site := [⟨66, [.fact 0, .lit (.cs [47])], [⟨.one (.t), [(0, 0, 1)]⟩, ⟨.one (.t), [(0, 0, 2)]⟩, ⟨.one (.lit (.cb true)), []⟩], true⟩,
      ⟨16, [.fact 1], [⟨.agg [.lit (.cb false), .lit (.nl)], []⟩, ⟨.one (.lit (.ci .i64 4)), []⟩], true⟩]
set_option maxRecDepth 100000 in
theorem rp_y0 {s : ByteArray} {k : Nat} (hs : s.size ≤ 90000) (hc : hasSlash s.data.toList = true) (hk : slashAt s.data.toList = k) (h : isNum (s.extract 0 k).data.toList = false) : SiteOk (ph (phi_rp_y0 s k)) Tryz.prog ⟨35, [.fact 0], [⟨.agg [.lit (.cb false), .lit (.nl), .lit (.cb false), .lit (.nl)], []⟩, ⟨.one (.lit (.ci .i64 4)), []⟩], true⟩ :=
  fn_ok ins_rp_y0 [⟨.agg [.lit (.cb false), .lit (.nl), .lit (.cb false), .lit (.nl)], []⟩, ⟨.one (.lit (.ci .i64 4)), []⟩] ss_rp_y0 Tryz.func35 (by kernel_rfl)
    (all_cons (sCutYes (fun _ _ h => h) (by omega) hc hk rfl rfl)
      (all_cons (sDParseNo (fun _ _ h => h) h)
      all_nil))
    (ins_ok [.fact 0 (.one (.t))] ⟨fun _ _ h => IsT h, trivial⟩) (fun _ _ _ h => h)

def phi_rp_y1 (s : ByteArray) (k : Nat) (z : Int) : List (World → Value → Prop) := [fun _ v => v = .string s, fun _ v => v = .string (s.extract 0 k), fun _ v => v = .string (s.extract (k + 1) s.size), fun w v => NorV w v z 50]
def ins_rp_y1 : List Out := [⟨.one (.t), [(0, 0, 0)]⟩]
def ss_rp_y1 : List Site := [⟨66, [.fact 0, .lit (.cs [47])], [⟨.one (.t), [(0, 0, 1)]⟩, ⟨.one (.t), [(0, 0, 2)]⟩, ⟨.one (.lit (.cb true)), []⟩], true⟩,
      ⟨16, [.fact 1], [⟨.agg [.b, .s], [(0, 0, 3)]⟩, ⟨.one (.lit (.ci .i64 0)), []⟩], true⟩,
      ⟨67, [.fact 2], [⟨.agg [.lit (.cb false), .lit (.nl)], []⟩, ⟨.one (.lit (.ci .i64 4)), []⟩], true⟩]
set_option maxRecDepth 100000 in
theorem rp_y1 {s : ByteArray} {k : Nat} {z : Int} (hs : s.size ≤ 90000) (hc : hasSlash s.data.toList = true) (hk : slashAt s.data.toList = k) (h : isNum (s.extract 0 k).data.toList = true) (hz : sNum (s.extract 0 k).data.toList = z) (h2 : (minusB (s.extract (k + 1) s.size).data.toList || !isNum (s.extract (k + 1) s.size).data.toList) = true) : SiteOk (ph (phi_rp_y1 s k z)) Tryz.prog ⟨35, [.fact 0], [⟨.agg [.lit (.cb false), .lit (.nl), .lit (.cb false), .lit (.nl)], []⟩, ⟨.one (.lit (.ci .i64 4)), []⟩], true⟩ :=
  fn_ok ins_rp_y1 [⟨.agg [.lit (.cb false), .lit (.nl), .lit (.cb false), .lit (.nl)], []⟩, ⟨.one (.lit (.ci .i64 4)), []⟩] ss_rp_y1 Tryz.func35 (by kernel_rfl)
    (all_cons (sCutYes (fun _ _ h => h) (by omega) hc hk rfl rfl)
      (all_cons (sDParse (fun _ _ h => h) h hz rfl)
      (all_cons (sNatNo (fun _ _ h => h) h2)
      all_nil)))
    (ins_ok [.fact 0 (.one (.t))] ⟨fun _ _ h => IsT h, trivial⟩) (fun _ _ _ h => h)

def phi_rp_y2 (s : ByteArray) (k : Nat) (z y : Int) : List (World → Value → Prop) := [fun _ v => v = .string s, fun _ v => v = .string (s.extract 0 k), fun _ v => v = .string (s.extract (k + 1) s.size), fun w v => NorV w v z 50, fun w v => NorV w v y 50]
def ins_rp_y2 : List Out := [⟨.one (.t), [(0, 0, 0)]⟩]
def ss_rp_y2 : List Site := [⟨66, [.fact 0, .lit (.cs [47])], [⟨.one (.t), [(0, 0, 1)]⟩, ⟨.one (.t), [(0, 0, 2)]⟩, ⟨.one (.lit (.cb true)), []⟩], true⟩,
      ⟨16, [.fact 1], [⟨.agg [.b, .s], [(0, 0, 3)]⟩, ⟨.one (.lit (.ci .i64 0)), []⟩], true⟩,
      ⟨67, [.fact 2], [⟨.agg [.b, .s], [(0, 0, 4)]⟩, ⟨.one (.lit (.ci .i64 0)), []⟩], true⟩,
      ⟨68, [.fact 3, .fact 4], [⟨.agg [.lit (.cb false), .lit (.nl), .lit (.cb false), .lit (.nl)], []⟩, ⟨.one (.lit (.ci .i64 2)), []⟩], true⟩]
set_option maxRecDepth 100000 in
theorem rp_y2 {s : ByteArray} {k : Nat} {z y : Int} (hs : s.size ≤ 90000) (hc : hasSlash s.data.toList = true) (hk : slashAt s.data.toList = k) (h : isNum (s.extract 0 k).data.toList = true) (hz : sNum (s.extract 0 k).data.toList = z) (h2 : minusB (s.extract (k + 1) s.size).data.toList = false) (h3 : isNum (s.extract (k + 1) s.size).data.toList = true) (hy : sNum (s.extract (k + 1) s.size).data.toList = y) (h0 : y = 0) : SiteOk (ph (phi_rp_y2 s k z y)) Tryz.prog ⟨35, [.fact 0], [⟨.agg [.lit (.cb false), .lit (.nl), .lit (.cb false), .lit (.nl)], []⟩, ⟨.one (.lit (.ci .i64 2)), []⟩], true⟩ :=
  fn_ok ins_rp_y2 [⟨.agg [.lit (.cb false), .lit (.nl), .lit (.cb false), .lit (.nl)], []⟩, ⟨.one (.lit (.ci .i64 2)), []⟩] ss_rp_y2 Tryz.func35 (by kernel_rfl)
    (all_cons (sCutYes (fun _ _ h => h) (by omega) hc hk rfl rfl)
      (all_cons (sDParse (fun _ _ h => h) h hz rfl)
      (all_cons (sNat (fun _ _ h => h) h2 h3 hy rfl)
      (all_cons (sRMake0 nI nI (by omega) h0)
      all_nil))))
    (ins_ok [.fact 0 (.one (.t))] ⟨fun _ _ h => IsT h, trivial⟩) (fun _ _ _ h => h)

def phi_rp_y3 (s : ByteArray) (k : Nat) (z y : Int) : List (World → Value → Prop) := [fun _ v => v = .string s, fun _ v => v = .string (s.extract 0 k), fun _ v => v = .string (s.extract (k + 1) s.size), fun w v => NorV w v z 50, fun w v => NorV w v y 50, fun w v => NorQ w v (Rat.divInt z y) (50 + 50), fun w v => NorV w v ((Rat.divInt z y).num) (50 + 50), fun w v => NorV w v ((Rat.divInt z y).den : Int) (50 + 50)]
def ins_rp_y3 : List Out := [⟨.one (.t), [(0, 0, 0)]⟩]
def ss_rp_y3 : List Site := [⟨66, [.fact 0, .lit (.cs [47])], [⟨.one (.t), [(0, 0, 1)]⟩, ⟨.one (.t), [(0, 0, 2)]⟩, ⟨.one (.lit (.cb true)), []⟩], true⟩,
      ⟨16, [.fact 1], [⟨.agg [.b, .s], [(0, 0, 3)]⟩, ⟨.one (.lit (.ci .i64 0)), []⟩], true⟩,
      ⟨67, [.fact 2], [⟨.agg [.b, .s], [(0, 0, 4)]⟩, ⟨.one (.lit (.ci .i64 0)), []⟩], true⟩,
      ⟨68, [.fact 3, .fact 4], [⟨.agg [.b, .s, .b, .s], [(0, 0, 5), (0, 2, 6), (2, 2, 7)]⟩, ⟨.one (.lit (.ci .i64 0)), []⟩], true⟩]
set_option maxRecDepth 100000 in
theorem rp_y3 {s : ByteArray} {k : Nat} {z y : Int} (hs : s.size ≤ 90000) (hc : hasSlash s.data.toList = true) (hk : slashAt s.data.toList = k) (h : isNum (s.extract 0 k).data.toList = true) (hz : sNum (s.extract 0 k).data.toList = z) (h2 : minusB (s.extract (k + 1) s.size).data.toList = false) (h3 : isNum (s.extract (k + 1) s.size).data.toList = true) (hy : sNum (s.extract (k + 1) s.size).data.toList = y) (h0 : y ≠ 0) : SiteOk (ph (phi_rp_y3 s k z y)) Tryz.prog ⟨35, [.fact 0], [⟨.agg [.b, .s, .b, .s], [(0, 0, 5), (0, 2, 6), (2, 2, 7)]⟩, ⟨.one (.lit (.ci .i64 0)), []⟩], true⟩ :=
  fn_ok ins_rp_y3 [⟨.agg [.b, .s, .b, .s], [(0, 0, 5), (0, 2, 6), (2, 2, 7)]⟩, ⟨.one (.lit (.ci .i64 0)), []⟩] ss_rp_y3 Tryz.func35 (by kernel_rfl)
    (all_cons (sCutYes (fun _ _ h => h) (by omega) hc hk rfl rfl)
      (all_cons (sDParse (fun _ _ h => h) h hz rfl)
      (all_cons (sNat (fun _ _ h => h) h2 h3 hy rfl)
      (all_cons (sRMake nI nI rfl rfl rfl (by omega) h0 rfl)
      all_nil))))
    (ins_ok [.fact 0 (.one (.t))] ⟨fun _ _ h => IsT h, trivial⟩) (fun _ _ _ h => h)

theorem top_list (s : ByteArray) (k : Nat) : (s.extract 0 k).data.toList = s.data.toList.take k := by rw [Lib.extract_data]; simp
theorem und_list (s : ByteArray) (k : Nat) : (s.extract k s.size).data.toList = s.data.toList.drop k := Lib.extract_to_end s k
theorem outs_q {Φ Ψ : Nat → World → Value → Prop} {s2 : CSh} {i i1 i2 j j1 j2 : Nat} (h0 : ∀ w v, Ψ i w v → Φ j w v) (h1 : ∀ w v, Ψ i1 w v → Φ j1 w v) (h2 : ∀ w v, Ψ i2 w v → Φ j2 w v) (X : Nat → Prop) (w : World) (us : List Value) (h : outsOk Ψ X w [⟨qS, [(0, 0, i), (0, 2, i1), (2, 2, i2)]⟩, ⟨s2, []⟩] us) : outsOk Φ X w [⟨qS, [(0, 0, j), (0, 2, j1), (2, 2, j2)]⟩, ⟨s2, []⟩] us := by
  match us, h with
  | [a, b], h =>
    refine ⟨⟨h.1.1, fun q hq w1 hw => ?_⟩, ⟨h.2.1.1, fun q hq => by cases hq⟩, trivial⟩
    simp only [List.mem_cons, List.not_mem_nil, or_false] at hq
    rcases hq with rfl | rfl | rfl
    · exact h0 _ _ (h.1.2 (0, 0, i) (by simp) w1 hw)
    · exact h1 _ _ (h.1.2 (0, 2, i1) (by simp) w1 hw)
    · exact h2 _ _ (h.1.2 (2, 2, i2) (by simp) w1 hw)
section
variable {Φ : Nat → World → Value → Prop} {p x x1 x2 : Nat} {s : ByteArray}
theorem sRParse4 (hp : ∀ w v, Φ p w v → v = .string s) (hs : s.size ≤ 90000) (h : rCode s.data.toList = 4) : SiteOk Φ Tryz.prog ⟨35, [.fact p], [⟨.agg [.lit (.cb false), .lit .nl, .lit (.cb false), .lit .nl], []⟩, ⟨.one (.lit (.ci .i64 4)), []⟩], true⟩ := by
  unfold rCode rTop rUnd at h
  split at h
  · rename_i hc
    split at h
    · rename_i ht
      split at h
      · rename_i hu
        exact viaT (rp_y1 (z := sNum (s.extract 0 (slashAt s.data.toList)).data.toList) hs hc rfl (by rw [top_list]; exact ht) rfl (by rw [und_list]; exact hu)) (fun w v h => hp w v h) outs_2
      · split at h <;> cases h
    · rename_i ht
      exact viaT (rp_y0 hs hc rfl (by rw [top_list]; simpa using ht)) (fun w v h => hp w v h) outs_2
  · rename_i hc
    split at h
    · cases h
    · rename_i ht
      exact viaT (rp_n0 (by simpa using hc) (by simpa using ht)) (fun w v h => hp w v h) outs_2
theorem sRParse2 (hp : ∀ w v, Φ p w v → v = .string s) (hs : s.size ≤ 90000) (h : rCode s.data.toList = 2) : SiteOk Φ Tryz.prog ⟨35, [.fact p], [⟨.agg [.lit (.cb false), .lit .nl, .lit (.cb false), .lit .nl], []⟩, ⟨.one (.lit (.ci .i64 2)), []⟩], true⟩ := by
  unfold rCode rTop rUnd at h
  split at h
  · rename_i hc
    split at h
    · rename_i ht
      split at h
      · cases h
      · rename_i hu
        split at h
        · rename_i h0
          have hu' : minusB (s.data.toList.drop (slashAt s.data.toList + 1)) = false ∧ isNum (s.data.toList.drop (slashAt s.data.toList + 1)) = true := by simpa using hu
          exact viaT (rp_y2 (z := sNum (s.extract 0 (slashAt s.data.toList)).data.toList) (y := sNum (s.extract (slashAt s.data.toList + 1) s.size).data.toList) hs hc rfl (by rw [top_list]; exact ht) rfl (by rw [und_list]; exact hu'.1) (by rw [und_list]; exact hu'.2) rfl (by rw [und_list]; exact h0)) (fun w v h => hp w v h) outs_2
        · cases h
    · cases h
  · split at h <;> cases h
theorem sRParse0 {t : Rat} (hp : ∀ w v, Φ p w v → v = .string s) (hs : s.size ≤ 90000) (h : rCode s.data.toList = 0) (ht : rQ s.data.toList = t) (hx : Φ x = fun w v => NorQ w v t 100) (hx1 : Φ x1 = fun w v => NorV w v t.num 100) (hx2 : Φ x2 = fun w v => NorV w v (t.den : Int) 100) :
    SiteOk Φ Tryz.prog ⟨35, [.fact p], [⟨qS, [(0, 0, x), (0, 2, x1), (2, 2, x2)]⟩, ⟨.one (.lit (.ci .i64 0)), []⟩], true⟩ := by
  subst ht
  unfold rCode rTop rUnd at h
  split at h
  · rename_i hc
    split at h
    · rename_i ht
      split at h
      · cases h
      · rename_i hu
        split at h
        · cases h
        · rename_i h0
          have hu' : minusB (s.data.toList.drop (slashAt s.data.toList + 1)) = false ∧ isNum (s.data.toList.drop (slashAt s.data.toList + 1)) = true := by simpa using hu
          have e : rQ s.data.toList = Rat.divInt (sNum (s.extract 0 (slashAt s.data.toList)).data.toList) (sNum (s.extract (slashAt s.data.toList + 1) s.size).data.toList) := by rw [rQ, if_pos hc, top_list, und_list]; rfl
          rw [e] at hx hx1 hx2
          exact viaT (rp_y3 hs hc rfl (by rw [top_list]; exact ht) rfl (by rw [und_list]; exact hu'.1) (by rw [und_list]; exact hu'.2) rfl (by rw [und_list]; exact h0)) (fun w v h => hp w v h) (outs_q (fun w v h => by rw [hx]; exact h) (fun w v h => by rw [hx1]; exact h) (fun w v h => by rw [hx2]; exact h))
    · cases h
  · rename_i hc
    split at h
    · rename_i ht
      have e : rQ s.data.toList = Rat.divInt (sNum s.data.toList) 1 := by rw [rQ, if_neg hc]
      rw [e] at hx hx1 hx2
      exact viaT (rp_n1 (by simpa using hc) ht rfl) (fun w v h => hp w v h) (outs_q (fun w v h => by rw [hx]; exact h) (fun w v h => by rw [hx1]; exact h) (fun w v h => by rw [hx2]; exact h))
    · cases h
end
end Go.Proofs.YtjakllpnbeagjaaGreatDoor.Sym
