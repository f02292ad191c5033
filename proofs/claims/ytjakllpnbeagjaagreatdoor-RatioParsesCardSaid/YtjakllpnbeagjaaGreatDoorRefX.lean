/- The reference's ParseR at every text. -/
import Derived.Test.YtjakllpnbeagjaaGreatDoorRefW
import Derived.Test.YtjakllpnbeagjaaGreatDoorRefV
import Derived.Test.YtjakllpnbeagjaaGreatDoorRatP
namespace Go.Proofs.YtjakllpnbeagjaaGreatDoor
theorem slash_ne {l : List UInt8} {j : Nat} (h : j < slashAt l) : (l.getD j 0).toNat ≠ 47 := by
  have h1 : j < (l.takeWhile (· != 47)).length := h
  have h2 : j < l.length := Nat.lt_of_lt_of_le h (slash_le l)
  have h3 := List.all_takeWhile (p := (· != (47 : UInt8))) (l := l)
  have h4 : (l.takeWhile (· != 47))[j] = l[j] := List.IsPrefix.getElem (List.takeWhile_prefix _) h1
  have h5 := List.all_eq_true.1 h3 _ (List.getElem_mem h1)
  rw [h4] at h5
  rw [show l.getD j 0 = l[j] by simp [List.getD, h2]]
  intro e
  have : l[j] = 47 := UInt8.toNat_inj.1 e
  rw [this] at h5
  exact absurd h5 (by decide)
theorem slash_is : ∀ {l : List UInt8}, slashAt l < l.length → (l.getD (slashAt l) 0).toNat = 47
  | [], h => by simp at h
  | c :: l, h => by
    by_cases hc : c = 47
    · subst hc; simp [slashAt]
    · have e : slashAt (c :: l) = slashAt l + 1 := by simp [slashAt, hc]
      rw [e] at h ⊢
      simpa using slash_is (l := l) (by simpa using h)
end Go.Proofs.YtjakllpnbeagjaaGreatDoor
namespace Go.Proofs.YtjakllpnbeagjaaGreatDoor.Sym
open Go.RowKit
theorem tst47 {c : Nat} (h : c ≠ 47) : tstB .neq (c : Int) 47 = true := by simp only [tstB, bne_iff_ne]; omega
theorem tst47n {c : Nat} (h : c = 47) : tstB .neq (c : Int) 47 = false := by subst h; rfl
theorem tstE {a b : Int} (h : a = b) : tstB .eql a b = true := by subst h; simp [tstB]
theorem tstEn {a b : Int} (h : a ≠ b) : tstB .eql a b = false := by simp [tstB, h]
def b_pr_n0 (s t : ByteArray) (k : Nat) : List (World → Value → Prop) := [fun _ v => v = .string s, fun _ v => v = .int .i64 (k : Int), fun _ v => v = .string t]
def l_pr_n0 (s : ByteArray) (j : Nat) : List (World → Value → Prop) := [fun _ v => v = .int .i64 (j : Int), fun _ v => v = .int .i64 (s.size : Int), fun _ v => v = .int .u8 ((s.data.toList.getD j 0).toNat : Int), fun _ v => v = .int .i64 ((j : Int) + 1), fun _ v => v = .int .i64 (s.size : Int)]
def d_pr_n0 : LoopD := ⟨[0, 2, 3], [(.slot 4, .i)], [(.one 0, 3)], [.closed (.one (.ci .i64 0))], 3, [(3, 1)]⟩
def r_pr_n0_0 : List Step := [.base ⟨0, [.fact 0], [⟨.one (.i), [(0, 0, 4)]⟩], .quiet (mLen 9)⟩,
      .base ⟨0, [.fact 3, .fact 4], [⟨.one (.lit (.cb true)), []⟩], .quiet (mBin .lss)⟩,
      .base ⟨0, [.fact 0, .fact 3], [⟨.one (.nk), [(0, 0, 5)]⟩], .quiet (mIndex 9)⟩,
      .base ⟨0, [.fact 5, .lit (.ci .u8 47)], [⟨.one (.lit (.cb true)), []⟩], .quiet (mBin .neq)⟩,
      .base ⟨0, [.fact 3, .lit (.ci .i64 1)], [⟨.one (.i), [(0, 0, 6)]⟩], .quiet (mBin .add)⟩]
def o_pr_n0 : List Step := [.base ⟨0, [.fact 0], [⟨.one (.i), [(0, 0, 7)]⟩], .quiet (mLen 9)⟩,
      .base ⟨0, [.fact 3, .fact 7], [⟨.one (.lit (.cb false)), []⟩], .quiet (mBin .lss)⟩]
def ss_pr_n0 : List Step := [.loop d_pr_n0 [(r_pr_n0_0, [.from 6])] o_pr_n0,
      .base ⟨0, [.fact 0, .fact 1], [⟨.one (.t), [(0, 0, 2)]⟩], .quiet (mTo 9)⟩,
      .base ⟨17, [.fact 2], [⟨.agg [.lit (.nl), .lit (.cb false)], []⟩, ⟨.one (.lit (.cb false)), []⟩], true⟩]
def ins_pr_n0 : List Out := [⟨.one (.t), [(0, 0, 0)]⟩]
set_option maxRecDepth 100000 in
theorem pr_n0 {s t : ByteArray} {k : Nat} (hd : ∀ j, j < k → (s.data.toList.getD j 0).toNat ≠ 47) (hk : k = s.size) (hs : s.size ≤ 90000) (ht : s.extract 0 k = t) (h : isNum t.data.toList = false) : SiteOk (ph (b_pr_n0 s t k)) Tryz.prog ⟨36, [.fact 0], [⟨.agg [.lit (.nl), .lit (.cb false), .lit (.nl), .lit (.cb false)], []⟩, ⟨.one (.lit (.ci .i64 4)), []⟩], true⟩ :=
  fn_okL ins_pr_n0 [⟨.agg [.lit (.nl), .lit (.cb false), .lit (.nl), .lit (.cb false)], []⟩, ⟨.one (.lit (.ci .i64 4)), []⟩] ss_pr_n0 Tryz.func36 (by kernel_rfl)
    (lloop (counted k (fun j => ph (b_pr_n0 s t k ++ l_pr_n0 s j)) (fun _ => 0) (fun j p hp => ph_app (show p < (b_pr_n0 s t k).length from hp)) ⟨fun _ => rfl, trivial⟩ (fun j hj => ⟨(r_pr_n0_0, [.from 6]), rfl, ⟨fun _ _ h => (h : _ = Value.int .i64 ((j : Int) + 1)).trans (by simp), trivial⟩, (lbase (qLenS Tryz.underlying9 (fun _ _ h => h) rfl)
      (lbase (qTest (op := .lss) (fun _ _ h => h) (fun _ _ h => h) (tst_run (decide_eq_true (by omega)) (by simp)))
      (lbase (qIndexS Tryz.underlying9 (fun _ _ h => h) (fun _ _ h => h) ((by omega)) rfl)
      (lbase (qTestN (op := .neq) (fun _ _ h => h) (tst_run (tst47 (hd j hj)) (by simp)))
      (lbase (qAddC' (fun _ _ h => h) rfl rfl (by omega) (by omega))
      lnil)))))⟩)
      (lbase (qLenS Tryz.underlying9 (fun _ _ h => h) rfl)
      (lbase (qTest (op := .lss) (fun _ _ h => h) (fun _ _ h => h) (tst_run (decide_eq_false (by omega)) (by simp)))
      lnil))
      (fun q hq w v h => by
        rcases List.mem_singleton.1 hq with rfl
        exact h)) (lbase (qToS (i := k) Tryz.underlying9 (fun _ _ h => h) (fun _ _ h => h) (by omega) ht rfl)
      (lbase (tParseNo (fun _ _ h => h) h)
      lnil)))
    (ins_ok [.fact 0 (.one (.t))] ⟨fun _ _ h => IsT h, trivial⟩) (fun _ _ _ h => h)

def b_pr_n1 (s t : ByteArray) (k : Nat) (z : Int) : List (World → Value → Prop) := [fun _ v => v = .string s, fun _ v => v = .int .i64 (k : Int), fun _ v => v = .string t, fun w v => DecI w v z 50, fun _ v => v = .int .i64 (s.size : Int), fun w v => DecI w v (1 : Int) 2, fun w v => DecQ w v (qOf z (1 : Int)) (50 + 2 + 2), fun w v => DecI w v ((qOf z (1 : Int)).num) (50 + 2 + 2), fun w v => DecI w v ((qOf z (1 : Int)).den : Int) (50 + 2 + 2)]
def l_pr_n1 (s : ByteArray) (j : Nat) : List (World → Value → Prop) := [fun _ v => v = .int .i64 (j : Int), fun _ v => v = .int .i64 (s.size : Int), fun _ v => v = .int .u8 ((s.data.toList.getD j 0).toNat : Int), fun _ v => v = .int .i64 ((j : Int) + 1), fun _ v => v = .int .i64 (s.size : Int)]
def d_pr_n1 : LoopD := ⟨[0, 2, 3], [(.slot 4, .i)], [(.one 0, 9)], [.closed (.one (.ci .i64 0))], 9, [(9, 1)]⟩
def r_pr_n1_0 : List Step := [.base ⟨0, [.fact 0], [⟨.one (.i), [(0, 0, 10)]⟩], .quiet (mLen 9)⟩,
      .base ⟨0, [.fact 9, .fact 10], [⟨.one (.lit (.cb true)), []⟩], .quiet (mBin .lss)⟩,
      .base ⟨0, [.fact 0, .fact 9], [⟨.one (.nk), [(0, 0, 11)]⟩], .quiet (mIndex 9)⟩,
      .base ⟨0, [.fact 11, .lit (.ci .u8 47)], [⟨.one (.lit (.cb true)), []⟩], .quiet (mBin .neq)⟩,
      .base ⟨0, [.fact 9, .lit (.ci .i64 1)], [⟨.one (.i), [(0, 0, 12)]⟩], .quiet (mBin .add)⟩]
def o_pr_n1 : List Step := [.base ⟨0, [.fact 0], [⟨.one (.i), [(0, 0, 13)]⟩], .quiet (mLen 9)⟩,
      .base ⟨0, [.fact 9, .fact 13], [⟨.one (.lit (.cb false)), []⟩], .quiet (mBin .lss)⟩]
def ss_pr_n1 : List Step := [.loop d_pr_n1 [(r_pr_n1_0, [.from 12])] o_pr_n1,
      .base ⟨0, [.fact 0, .fact 1], [⟨.one (.t), [(0, 0, 2)]⟩], .quiet (mTo 9)⟩,
      .base ⟨17, [.fact 2], [⟨.agg [.s, .b], [(0, 0, 3)]⟩, ⟨.one (.lit (.cb true)), []⟩], true⟩,
      .base ⟨0, [.fact 0], [⟨.one (.i), [(0, 0, 4)]⟩], .quiet (mLen 9)⟩,
      .base ⟨0, [.fact 1, .fact 4], [⟨.one (.lit (.cb true)), []⟩], .quiet (mBin .eql)⟩,
      .base ⟨47, [.lit (.ci .i64 1)], [⟨.agg [.s, .b], [(0, 0, 5)]⟩], false⟩,
      .base ⟨55, [.fact 3, .fact 5], [⟨.agg [.s, .b, .s, .b], [(0, 0, 6), (0, 2, 7), (2, 2, 8)]⟩], false⟩]
def ins_pr_n1 : List Out := [⟨.one (.t), [(0, 0, 0)]⟩]
set_option maxRecDepth 100000 in
theorem pr_n1 {s t : ByteArray} {k : Nat} {z : Int} (hd : ∀ j, j < k → (s.data.toList.getD j 0).toNat ≠ 47) (hk : k = s.size) (hs : s.size ≤ 90000) (ht : s.extract 0 k = t) (h : isNum t.data.toList = true) (hz : sNum t.data.toList = z) : SiteOk (ph (b_pr_n1 s t k z)) Tryz.prog ⟨36, [.fact 0], [⟨.agg [.s, .b, .s, .b], [(0, 0, 6), (0, 2, 7), (2, 2, 8)]⟩, ⟨.one (.lit (.ci .i64 0)), []⟩], true⟩ :=
  fn_okL ins_pr_n1 [⟨.agg [.s, .b, .s, .b], [(0, 0, 6), (0, 2, 7), (2, 2, 8)]⟩, ⟨.one (.lit (.ci .i64 0)), []⟩] ss_pr_n1 Tryz.func36 (by kernel_rfl)
    (lloop (counted k (fun j => ph (b_pr_n1 s t k z ++ l_pr_n1 s j)) (fun _ => 0) (fun j p hp => ph_app (show p < (b_pr_n1 s t k z).length from hp)) ⟨fun _ => rfl, trivial⟩ (fun j hj => ⟨(r_pr_n1_0, [.from 12]), rfl, ⟨fun _ _ h => (h : _ = Value.int .i64 ((j : Int) + 1)).trans (by simp), trivial⟩, (lbase (qLenS Tryz.underlying9 (fun _ _ h => h) rfl)
      (lbase (qTest (op := .lss) (fun _ _ h => h) (fun _ _ h => h) (tst_run (decide_eq_true (by omega)) (by simp)))
      (lbase (qIndexS Tryz.underlying9 (fun _ _ h => h) (fun _ _ h => h) ((by omega)) rfl)
      (lbase (qTestN (op := .neq) (fun _ _ h => h) (tst_run (tst47 (hd j hj)) (by simp)))
      (lbase (qAddC' (fun _ _ h => h) rfl rfl (by omega) (by omega))
      lnil)))))⟩)
      (lbase (qLenS Tryz.underlying9 (fun _ _ h => h) rfl)
      (lbase (qTest (op := .lss) (fun _ _ h => h) (fun _ _ h => h) (tst_run (decide_eq_false (by omega)) (by simp)))
      lnil))
      (fun q hq w v h => by
        rcases List.mem_singleton.1 hq with rfl
        exact h)) (lbase (qToS (i := k) Tryz.underlying9 (fun _ _ h => h) (fun _ _ h => h) (by omega) ht rfl)
      (lbase (tParse (fun _ _ h => h) h hz rfl)
      (lbase (qLenS Tryz.underlying9 (fun _ _ h => h) rfl)
      (lbase (qTest (op := .eql) (fun _ _ h => h) (fun _ _ h => h) (tst_run (tstE (by omega)) (by simp)))
      (lbase (tOf (z := 1) rfl (by decide) (by decide) rfl)
      (lbase (tMake dD dD rfl rfl rfl (by omega) rfl)
      lnil)))))))
    (ins_ok [.fact 0 (.one (.t))] ⟨fun _ _ h => IsT h, trivial⟩) (fun _ _ _ h => h)

def b_pr_y0 (s t : ByteArray) (k : Nat) : List (World → Value → Prop) := [fun _ v => v = .string s, fun _ v => v = .int .i64 (k : Int), fun _ v => v = .string t]
def l_pr_y0 (s : ByteArray) (j : Nat) : List (World → Value → Prop) := [fun _ v => v = .int .i64 (j : Int), fun _ v => v = .int .i64 (s.size : Int), fun _ v => v = .int .u8 ((s.data.toList.getD j 0).toNat : Int), fun _ v => v = .int .i64 ((j : Int) + 1), fun _ v => v = .int .i64 (s.size : Int), fun _ v => v = .int .u8 ((s.data.toList.getD j 0).toNat : Int)]
def d_pr_y0 : LoopD := ⟨[0, 2, 3], [(.slot 4, .i)], [(.one 0, 3)], [.closed (.one (.ci .i64 0))], 3, [(3, 1)]⟩
def r_pr_y0_0 : List Step := [.base ⟨0, [.fact 0], [⟨.one (.i), [(0, 0, 4)]⟩], .quiet (mLen 9)⟩,
      .base ⟨0, [.fact 3, .fact 4], [⟨.one (.lit (.cb true)), []⟩], .quiet (mBin .lss)⟩,
      .base ⟨0, [.fact 0, .fact 3], [⟨.one (.nk), [(0, 0, 5)]⟩], .quiet (mIndex 9)⟩,
      .base ⟨0, [.fact 5, .lit (.ci .u8 47)], [⟨.one (.lit (.cb true)), []⟩], .quiet (mBin .neq)⟩,
      .base ⟨0, [.fact 3, .lit (.ci .i64 1)], [⟨.one (.i), [(0, 0, 6)]⟩], .quiet (mBin .add)⟩]
def o_pr_y0 : List Step := [.base ⟨0, [.fact 0], [⟨.one (.i), [(0, 0, 7)]⟩], .quiet (mLen 9)⟩,
      .base ⟨0, [.fact 3, .fact 7], [⟨.one (.lit (.cb true)), []⟩], .quiet (mBin .lss)⟩,
      .base ⟨0, [.fact 0, .fact 3], [⟨.one (.nk), [(0, 0, 8)]⟩], .quiet (mIndex 9)⟩,
      .base ⟨0, [.fact 8, .lit (.ci .u8 47)], [⟨.one (.lit (.cb false)), []⟩], .quiet (mBin .neq)⟩]
def ss_pr_y0 : List Step := [.loop d_pr_y0 [(r_pr_y0_0, [.from 6])] o_pr_y0,
      .base ⟨0, [.fact 0, .fact 1], [⟨.one (.t), [(0, 0, 2)]⟩], .quiet (mTo 9)⟩,
      .base ⟨17, [.fact 2], [⟨.agg [.lit (.nl), .lit (.cb false)], []⟩, ⟨.one (.lit (.cb false)), []⟩], true⟩]
def ins_pr_y0 : List Out := [⟨.one (.t), [(0, 0, 0)]⟩]
set_option maxRecDepth 100000 in
theorem pr_y0 {s t : ByteArray} {k : Nat} (hd : ∀ j, j < k → (s.data.toList.getD j 0).toNat ≠ 47) (hk : k < s.size) (hs : s.size ≤ 90000) (h47 : (s.data.toList.getD k 0).toNat = 47) (ht : s.extract 0 k = t) (h : isNum t.data.toList = false) : SiteOk (ph (b_pr_y0 s t k)) Tryz.prog ⟨36, [.fact 0], [⟨.agg [.lit (.nl), .lit (.cb false), .lit (.nl), .lit (.cb false)], []⟩, ⟨.one (.lit (.ci .i64 4)), []⟩], true⟩ :=
  fn_okL ins_pr_y0 [⟨.agg [.lit (.nl), .lit (.cb false), .lit (.nl), .lit (.cb false)], []⟩, ⟨.one (.lit (.ci .i64 4)), []⟩] ss_pr_y0 Tryz.func36 (by kernel_rfl)
    (lloop (counted k (fun j => ph (b_pr_y0 s t k ++ l_pr_y0 s j)) (fun _ => 0) (fun j p hp => ph_app (show p < (b_pr_y0 s t k).length from hp)) ⟨fun _ => rfl, trivial⟩ (fun j hj => ⟨(r_pr_y0_0, [.from 6]), rfl, ⟨fun _ _ h => (h : _ = Value.int .i64 ((j : Int) + 1)).trans (by simp), trivial⟩, (lbase (qLenS Tryz.underlying9 (fun _ _ h => h) rfl)
      (lbase (qTest (op := .lss) (fun _ _ h => h) (fun _ _ h => h) (tst_run (decide_eq_true (by omega)) (by simp)))
      (lbase (qIndexS Tryz.underlying9 (fun _ _ h => h) (fun _ _ h => h) ((by omega)) rfl)
      (lbase (qTestN (op := .neq) (fun _ _ h => h) (tst_run (tst47 (hd j hj)) (by simp)))
      (lbase (qAddC' (fun _ _ h => h) rfl rfl (by omega) (by omega))
      lnil)))))⟩)
      (lbase (qLenS Tryz.underlying9 (fun _ _ h => h) rfl)
      (lbase (qTest (op := .lss) (fun _ _ h => h) (fun _ _ h => h) (tst_run (decide_eq_true (by omega)) (by simp)))
      (lbase (qIndexS Tryz.underlying9 (fun _ _ h => h) (fun _ _ h => h) (hk) rfl)
      (lbase (qTestN (op := .neq) (fun _ _ h => h) (tst_run (tst47n h47) (by simp)))
      lnil))))
      (fun q hq w v h => by
        rcases List.mem_singleton.1 hq with rfl
        exact h)) (lbase (qToS (i := k) Tryz.underlying9 (fun _ _ h => h) (fun _ _ h => h) (by omega) ht rfl)
      (lbase (tParseNo (fun _ _ h => h) h)
      lnil)))
    (ins_ok [.fact 0 (.one (.t))] ⟨fun _ _ h => IsT h, trivial⟩) (fun _ _ _ h => h)

def b_pr_y1a (s t u : ByteArray) (k : Nat) (z : Int) : List (World → Value → Prop) := [fun _ v => v = .string s, fun _ v => v = .int .i64 (k : Int), fun _ v => v = .string t, fun w v => DecI w v z 50, fun _ v => v = .int .i64 (s.size : Int), fun _ v => v = .int .i64 ((k + 1 : Nat) : Int), fun _ v => v = .string u]
def l_pr_y1a (s : ByteArray) (j : Nat) : List (World → Value → Prop) := [fun _ v => v = .int .i64 (j : Int), fun _ v => v = .int .i64 (s.size : Int), fun _ v => v = .int .u8 ((s.data.toList.getD j 0).toNat : Int), fun _ v => v = .int .i64 ((j : Int) + 1), fun _ v => v = .int .i64 (s.size : Int), fun _ v => v = .int .u8 ((s.data.toList.getD j 0).toNat : Int)]
def d_pr_y1a : LoopD := ⟨[0, 2, 3], [(.slot 4, .i)], [(.one 0, 7)], [.closed (.one (.ci .i64 0))], 7, [(7, 1)]⟩
def r_pr_y1a_0 : List Step := [.base ⟨0, [.fact 0], [⟨.one (.i), [(0, 0, 8)]⟩], .quiet (mLen 9)⟩,
      .base ⟨0, [.fact 7, .fact 8], [⟨.one (.lit (.cb true)), []⟩], .quiet (mBin .lss)⟩,
      .base ⟨0, [.fact 0, .fact 7], [⟨.one (.nk), [(0, 0, 9)]⟩], .quiet (mIndex 9)⟩,
      .base ⟨0, [.fact 9, .lit (.ci .u8 47)], [⟨.one (.lit (.cb true)), []⟩], .quiet (mBin .neq)⟩,
      .base ⟨0, [.fact 7, .lit (.ci .i64 1)], [⟨.one (.i), [(0, 0, 10)]⟩], .quiet (mBin .add)⟩]
def o_pr_y1a : List Step := [.base ⟨0, [.fact 0], [⟨.one (.i), [(0, 0, 11)]⟩], .quiet (mLen 9)⟩,
      .base ⟨0, [.fact 7, .fact 11], [⟨.one (.lit (.cb true)), []⟩], .quiet (mBin .lss)⟩,
      .base ⟨0, [.fact 0, .fact 7], [⟨.one (.nk), [(0, 0, 12)]⟩], .quiet (mIndex 9)⟩,
      .base ⟨0, [.fact 12, .lit (.ci .u8 47)], [⟨.one (.lit (.cb false)), []⟩], .quiet (mBin .neq)⟩]
def ss_pr_y1a : List Step := [.loop d_pr_y1a [(r_pr_y1a_0, [.from 10])] o_pr_y1a,
      .base ⟨0, [.fact 0, .fact 1], [⟨.one (.t), [(0, 0, 2)]⟩], .quiet (mTo 9)⟩,
      .base ⟨17, [.fact 2], [⟨.agg [.s, .b], [(0, 0, 3)]⟩, ⟨.one (.lit (.cb true)), []⟩], true⟩,
      .base ⟨0, [.fact 0], [⟨.one (.i), [(0, 0, 4)]⟩], .quiet (mLen 9)⟩,
      .base ⟨0, [.fact 1, .fact 4], [⟨.one (.lit (.cb false)), []⟩], .quiet (mBin .eql)⟩,
      .base ⟨0, [.fact 1, .lit (.ci .i64 1)], [⟨.one (.i), [(0, 0, 5)]⟩], .quiet (mBin .add)⟩,
      .base ⟨0, [.fact 0, .fact 5], [⟨.one (.t), [(0, 0, 6)]⟩], .quiet (mFrom 9)⟩,
      .base ⟨17, [.fact 6], [⟨.agg [.lit (.nl), .lit (.cb false)], []⟩, ⟨.one (.lit (.cb false)), []⟩], true⟩]
def ins_pr_y1a : List Out := [⟨.one (.t), [(0, 0, 0)]⟩]
set_option maxRecDepth 100000 in
theorem pr_y1a {s t u : ByteArray} {k : Nat} {z : Int} (hd : ∀ j, j < k → (s.data.toList.getD j 0).toNat ≠ 47) (hk : k < s.size) (hs : s.size ≤ 90000) (h47 : (s.data.toList.getD k 0).toNat = 47) (ht : s.extract 0 k = t) (h : isNum t.data.toList = true) (hz : sNum t.data.toList = z) (hu : s.extract (k + 1) s.size = u) (h2 : isNum u.data.toList = false) : SiteOk (ph (b_pr_y1a s t u k z)) Tryz.prog ⟨36, [.fact 0], [⟨.agg [.lit (.nl), .lit (.cb false), .lit (.nl), .lit (.cb false)], []⟩, ⟨.one (.lit (.ci .i64 4)), []⟩], true⟩ :=
  fn_okL ins_pr_y1a [⟨.agg [.lit (.nl), .lit (.cb false), .lit (.nl), .lit (.cb false)], []⟩, ⟨.one (.lit (.ci .i64 4)), []⟩] ss_pr_y1a Tryz.func36 (by kernel_rfl)
    (lloop (counted k (fun j => ph (b_pr_y1a s t u k z ++ l_pr_y1a s j)) (fun _ => 0) (fun j p hp => ph_app (show p < (b_pr_y1a s t u k z).length from hp)) ⟨fun _ => rfl, trivial⟩ (fun j hj => ⟨(r_pr_y1a_0, [.from 10]), rfl, ⟨fun _ _ h => (h : _ = Value.int .i64 ((j : Int) + 1)).trans (by simp), trivial⟩, (lbase (qLenS Tryz.underlying9 (fun _ _ h => h) rfl)
      (lbase (qTest (op := .lss) (fun _ _ h => h) (fun _ _ h => h) (tst_run (decide_eq_true (by omega)) (by simp)))
      (lbase (qIndexS Tryz.underlying9 (fun _ _ h => h) (fun _ _ h => h) ((by omega)) rfl)
      (lbase (qTestN (op := .neq) (fun _ _ h => h) (tst_run (tst47 (hd j hj)) (by simp)))
      (lbase (qAddC' (fun _ _ h => h) rfl rfl (by omega) (by omega))
      lnil)))))⟩)
      (lbase (qLenS Tryz.underlying9 (fun _ _ h => h) rfl)
      (lbase (qTest (op := .lss) (fun _ _ h => h) (fun _ _ h => h) (tst_run (decide_eq_true (by omega)) (by simp)))
      (lbase (qIndexS Tryz.underlying9 (fun _ _ h => h) (fun _ _ h => h) (hk) rfl)
      (lbase (qTestN (op := .neq) (fun _ _ h => h) (tst_run (tst47n h47) (by simp)))
      lnil))))
      (fun q hq w v h => by
        rcases List.mem_singleton.1 hq with rfl
        exact h)) (lbase (qToS (i := k) Tryz.underlying9 (fun _ _ h => h) (fun _ _ h => h) (by omega) ht rfl)
      (lbase (tParse (fun _ _ h => h) h hz rfl)
      (lbase (qLenS Tryz.underlying9 (fun _ _ h => h) rfl)
      (lbase (qTest (op := .eql) (fun _ _ h => h) (fun _ _ h => h) (tst_run (tstEn (by omega)) (by simp)))
      (lbase (qAddC' (fun _ _ h => h) (by omega) rfl (by omega) (by omega))
      (lbase (qFromS (i := (k + 1)) Tryz.underlying9 (fun _ _ h => h) (fun _ _ h => h) (by omega) hu rfl)
      (lbase (tParseNo (fun _ _ h => h) h2)
      lnil))))))))
    (ins_ok [.fact 0 (.one (.t))] ⟨fun _ _ h => IsT h, trivial⟩) (fun _ _ _ h => h)

def b_pr_y1b (s t u : ByteArray) (k : Nat) (z y : Int) : List (World → Value → Prop) := [fun _ v => v = .string s, fun _ v => v = .int .i64 (k : Int), fun _ v => v = .string t, fun w v => DecI w v z 50, fun _ v => v = .int .i64 (s.size : Int), fun _ v => v = .int .i64 ((k + 1 : Nat) : Int), fun _ v => v = .string u, fun w v => DecI w v y 50, fun _ v => v = .int .u8 ((u.data.toList.getD 0 0).toNat : Int)]
def l_pr_y1b (s : ByteArray) (j : Nat) : List (World → Value → Prop) := [fun _ v => v = .int .i64 (j : Int), fun _ v => v = .int .i64 (s.size : Int), fun _ v => v = .int .u8 ((s.data.toList.getD j 0).toNat : Int), fun _ v => v = .int .i64 ((j : Int) + 1), fun _ v => v = .int .i64 (s.size : Int), fun _ v => v = .int .u8 ((s.data.toList.getD j 0).toNat : Int)]
def d_pr_y1b : LoopD := ⟨[0, 2, 3], [(.slot 4, .i)], [(.one 0, 9)], [.closed (.one (.ci .i64 0))], 9, [(9, 1)]⟩
def r_pr_y1b_0 : List Step := [.base ⟨0, [.fact 0], [⟨.one (.i), [(0, 0, 10)]⟩], .quiet (mLen 9)⟩,
      .base ⟨0, [.fact 9, .fact 10], [⟨.one (.lit (.cb true)), []⟩], .quiet (mBin .lss)⟩,
      .base ⟨0, [.fact 0, .fact 9], [⟨.one (.nk), [(0, 0, 11)]⟩], .quiet (mIndex 9)⟩,
      .base ⟨0, [.fact 11, .lit (.ci .u8 47)], [⟨.one (.lit (.cb true)), []⟩], .quiet (mBin .neq)⟩,
      .base ⟨0, [.fact 9, .lit (.ci .i64 1)], [⟨.one (.i), [(0, 0, 12)]⟩], .quiet (mBin .add)⟩]
def o_pr_y1b : List Step := [.base ⟨0, [.fact 0], [⟨.one (.i), [(0, 0, 13)]⟩], .quiet (mLen 9)⟩,
      .base ⟨0, [.fact 9, .fact 13], [⟨.one (.lit (.cb true)), []⟩], .quiet (mBin .lss)⟩,
      .base ⟨0, [.fact 0, .fact 9], [⟨.one (.nk), [(0, 0, 14)]⟩], .quiet (mIndex 9)⟩,
      .base ⟨0, [.fact 14, .lit (.ci .u8 47)], [⟨.one (.lit (.cb false)), []⟩], .quiet (mBin .neq)⟩]
def ss_pr_y1b : List Step := [.loop d_pr_y1b [(r_pr_y1b_0, [.from 12])] o_pr_y1b,
      .base ⟨0, [.fact 0, .fact 1], [⟨.one (.t), [(0, 0, 2)]⟩], .quiet (mTo 9)⟩,
      .base ⟨17, [.fact 2], [⟨.agg [.s, .b], [(0, 0, 3)]⟩, ⟨.one (.lit (.cb true)), []⟩], true⟩,
      .base ⟨0, [.fact 0], [⟨.one (.i), [(0, 0, 4)]⟩], .quiet (mLen 9)⟩,
      .base ⟨0, [.fact 1, .fact 4], [⟨.one (.lit (.cb false)), []⟩], .quiet (mBin .eql)⟩,
      .base ⟨0, [.fact 1, .lit (.ci .i64 1)], [⟨.one (.i), [(0, 0, 5)]⟩], .quiet (mBin .add)⟩,
      .base ⟨0, [.fact 0, .fact 5], [⟨.one (.t), [(0, 0, 6)]⟩], .quiet (mFrom 9)⟩,
      .base ⟨17, [.fact 6], [⟨.agg [.s, .b], [(0, 0, 7)]⟩, ⟨.one (.lit (.cb true)), []⟩], true⟩,
      .base ⟨0, [.fact 6, .lit (.ci .i64 0)], [⟨.one (.nk), [(0, 0, 8)]⟩], .quiet (mIndex 9)⟩,
      .base ⟨0, [.fact 8, .lit (.ci .u8 45)], [⟨.one (.lit (.cb true)), []⟩], .quiet (mBin .eql)⟩]
def ins_pr_y1b : List Out := [⟨.one (.t), [(0, 0, 0)]⟩]
set_option maxRecDepth 100000 in
theorem pr_y1b {s t u : ByteArray} {k : Nat} {z y : Int} (hd : ∀ j, j < k → (s.data.toList.getD j 0).toNat ≠ 47) (hk : k < s.size) (hs : s.size ≤ 90000) (h47 : (s.data.toList.getD k 0).toNat = 47) (ht : s.extract 0 k = t) (h : isNum t.data.toList = true) (hz : sNum t.data.toList = z) (hu : s.extract (k + 1) s.size = u) (h2 : isNum u.data.toList = true) (hy : sNum u.data.toList = y) (hu0 : 0 < u.size) (h3 : (u.data.toList.getD 0 0).toNat = 45) : SiteOk (ph (b_pr_y1b s t u k z y)) Tryz.prog ⟨36, [.fact 0], [⟨.agg [.lit (.nl), .lit (.cb false), .lit (.nl), .lit (.cb false)], []⟩, ⟨.one (.lit (.ci .i64 4)), []⟩], true⟩ :=
  fn_okL ins_pr_y1b [⟨.agg [.lit (.nl), .lit (.cb false), .lit (.nl), .lit (.cb false)], []⟩, ⟨.one (.lit (.ci .i64 4)), []⟩] ss_pr_y1b Tryz.func36 (by kernel_rfl)
    (lloop (counted k (fun j => ph (b_pr_y1b s t u k z y ++ l_pr_y1b s j)) (fun _ => 0) (fun j p hp => ph_app (show p < (b_pr_y1b s t u k z y).length from hp)) ⟨fun _ => rfl, trivial⟩ (fun j hj => ⟨(r_pr_y1b_0, [.from 12]), rfl, ⟨fun _ _ h => (h : _ = Value.int .i64 ((j : Int) + 1)).trans (by simp), trivial⟩, (lbase (qLenS Tryz.underlying9 (fun _ _ h => h) rfl)
      (lbase (qTest (op := .lss) (fun _ _ h => h) (fun _ _ h => h) (tst_run (decide_eq_true (by omega)) (by simp)))
      (lbase (qIndexS Tryz.underlying9 (fun _ _ h => h) (fun _ _ h => h) ((by omega)) rfl)
      (lbase (qTestN (op := .neq) (fun _ _ h => h) (tst_run (tst47 (hd j hj)) (by simp)))
      (lbase (qAddC' (fun _ _ h => h) rfl rfl (by omega) (by omega))
      lnil)))))⟩)
      (lbase (qLenS Tryz.underlying9 (fun _ _ h => h) rfl)
      (lbase (qTest (op := .lss) (fun _ _ h => h) (fun _ _ h => h) (tst_run (decide_eq_true (by omega)) (by simp)))
      (lbase (qIndexS Tryz.underlying9 (fun _ _ h => h) (fun _ _ h => h) (hk) rfl)
      (lbase (qTestN (op := .neq) (fun _ _ h => h) (tst_run (tst47n h47) (by simp)))
      lnil))))
      (fun q hq w v h => by
        rcases List.mem_singleton.1 hq with rfl
        exact h)) (lbase (qToS (i := k) Tryz.underlying9 (fun _ _ h => h) (fun _ _ h => h) (by omega) ht rfl)
      (lbase (tParse (fun _ _ h => h) h hz rfl)
      (lbase (qLenS Tryz.underlying9 (fun _ _ h => h) rfl)
      (lbase (qTest (op := .eql) (fun _ _ h => h) (fun _ _ h => h) (tst_run (tstEn (by omega)) (by simp)))
      (lbase (qAddC' (fun _ _ h => h) (by omega) rfl (by omega) (by omega))
      (lbase (qFromS (i := (k + 1)) Tryz.underlying9 (fun _ _ h => h) (fun _ _ h => h) (by omega) hu rfl)
      (lbase (tParse (fun _ _ h => h) h2 hy rfl)
      (lbase (qIndexSC 0 rfl Tryz.underlying9 (fun _ _ h => h) (hu0) rfl)
      (lbase (qTestN (op := .eql) (fun _ _ h => h) (tst_run (tst45 h3) (by simp)))
      lnil))))))))))
    (ins_ok [.fact 0 (.one (.t))] ⟨fun _ _ h => IsT h, trivial⟩) (fun _ _ _ h => h)

def b_pr_y2 (s t u : ByteArray) (k : Nat) (z y : Int) : List (World → Value → Prop) := [fun _ v => v = .string s, fun _ v => v = .int .i64 (k : Int), fun _ v => v = .string t, fun w v => DecI w v z 50, fun _ v => v = .int .i64 (s.size : Int), fun _ v => v = .int .i64 ((k + 1 : Nat) : Int), fun _ v => v = .string u, fun w v => DecI w v y 50, fun _ v => v = .int .u8 ((u.data.toList.getD 0 0).toNat : Int)]
def l_pr_y2 (s : ByteArray) (j : Nat) : List (World → Value → Prop) := [fun _ v => v = .int .i64 (j : Int), fun _ v => v = .int .i64 (s.size : Int), fun _ v => v = .int .u8 ((s.data.toList.getD j 0).toNat : Int), fun _ v => v = .int .i64 ((j : Int) + 1), fun _ v => v = .int .i64 (s.size : Int), fun _ v => v = .int .u8 ((s.data.toList.getD j 0).toNat : Int)]
def d_pr_y2 : LoopD := ⟨[0, 2, 3], [(.slot 4, .i)], [(.one 0, 9)], [.closed (.one (.ci .i64 0))], 9, [(9, 1)]⟩
def r_pr_y2_0 : List Step := [.base ⟨0, [.fact 0], [⟨.one (.i), [(0, 0, 10)]⟩], .quiet (mLen 9)⟩,
      .base ⟨0, [.fact 9, .fact 10], [⟨.one (.lit (.cb true)), []⟩], .quiet (mBin .lss)⟩,
      .base ⟨0, [.fact 0, .fact 9], [⟨.one (.nk), [(0, 0, 11)]⟩], .quiet (mIndex 9)⟩,
      .base ⟨0, [.fact 11, .lit (.ci .u8 47)], [⟨.one (.lit (.cb true)), []⟩], .quiet (mBin .neq)⟩,
      .base ⟨0, [.fact 9, .lit (.ci .i64 1)], [⟨.one (.i), [(0, 0, 12)]⟩], .quiet (mBin .add)⟩]
def o_pr_y2 : List Step := [.base ⟨0, [.fact 0], [⟨.one (.i), [(0, 0, 13)]⟩], .quiet (mLen 9)⟩,
      .base ⟨0, [.fact 9, .fact 13], [⟨.one (.lit (.cb true)), []⟩], .quiet (mBin .lss)⟩,
      .base ⟨0, [.fact 0, .fact 9], [⟨.one (.nk), [(0, 0, 14)]⟩], .quiet (mIndex 9)⟩,
      .base ⟨0, [.fact 14, .lit (.ci .u8 47)], [⟨.one (.lit (.cb false)), []⟩], .quiet (mBin .neq)⟩]
def ss_pr_y2 : List Step := [.loop d_pr_y2 [(r_pr_y2_0, [.from 12])] o_pr_y2,
      .base ⟨0, [.fact 0, .fact 1], [⟨.one (.t), [(0, 0, 2)]⟩], .quiet (mTo 9)⟩,
      .base ⟨17, [.fact 2], [⟨.agg [.s, .b], [(0, 0, 3)]⟩, ⟨.one (.lit (.cb true)), []⟩], true⟩,
      .base ⟨0, [.fact 0], [⟨.one (.i), [(0, 0, 4)]⟩], .quiet (mLen 9)⟩,
      .base ⟨0, [.fact 1, .fact 4], [⟨.one (.lit (.cb false)), []⟩], .quiet (mBin .eql)⟩,
      .base ⟨0, [.fact 1, .lit (.ci .i64 1)], [⟨.one (.i), [(0, 0, 5)]⟩], .quiet (mBin .add)⟩,
      .base ⟨0, [.fact 0, .fact 5], [⟨.one (.t), [(0, 0, 6)]⟩], .quiet (mFrom 9)⟩,
      .base ⟨17, [.fact 6], [⟨.agg [.s, .b], [(0, 0, 7)]⟩, ⟨.one (.lit (.cb true)), []⟩], true⟩,
      .base ⟨0, [.fact 6, .lit (.ci .i64 0)], [⟨.one (.nk), [(0, 0, 8)]⟩], .quiet (mIndex 9)⟩,
      .base ⟨0, [.fact 8, .lit (.ci .u8 45)], [⟨.one (.lit (.cb false)), []⟩], .quiet (mBin .eql)⟩,
      .base ⟨69, [.fact 7], [⟨.one (.lit (.cb true)), []⟩], false⟩]
def ins_pr_y2 : List Out := [⟨.one (.t), [(0, 0, 0)]⟩]
set_option maxRecDepth 100000 in
theorem pr_y2 {s t u : ByteArray} {k : Nat} {z y : Int} (hd : ∀ j, j < k → (s.data.toList.getD j 0).toNat ≠ 47) (hk : k < s.size) (hs : s.size ≤ 90000) (h47 : (s.data.toList.getD k 0).toNat = 47) (ht : s.extract 0 k = t) (h : isNum t.data.toList = true) (hz : sNum t.data.toList = z) (hu : s.extract (k + 1) s.size = u) (h2 : isNum u.data.toList = true) (hy : sNum u.data.toList = y) (hu0 : 0 < u.size) (h3 : (u.data.toList.getD 0 0).toNat ≠ 45) (h0 : y = 0) : SiteOk (ph (b_pr_y2 s t u k z y)) Tryz.prog ⟨36, [.fact 0], [⟨.agg [.lit (.nl), .lit (.cb false), .lit (.nl), .lit (.cb false)], []⟩, ⟨.one (.lit (.ci .i64 2)), []⟩], true⟩ :=
  fn_okL ins_pr_y2 [⟨.agg [.lit (.nl), .lit (.cb false), .lit (.nl), .lit (.cb false)], []⟩, ⟨.one (.lit (.ci .i64 2)), []⟩] ss_pr_y2 Tryz.func36 (by kernel_rfl)
    (lloop (counted k (fun j => ph (b_pr_y2 s t u k z y ++ l_pr_y2 s j)) (fun _ => 0) (fun j p hp => ph_app (show p < (b_pr_y2 s t u k z y).length from hp)) ⟨fun _ => rfl, trivial⟩ (fun j hj => ⟨(r_pr_y2_0, [.from 12]), rfl, ⟨fun _ _ h => (h : _ = Value.int .i64 ((j : Int) + 1)).trans (by simp), trivial⟩, (lbase (qLenS Tryz.underlying9 (fun _ _ h => h) rfl)
      (lbase (qTest (op := .lss) (fun _ _ h => h) (fun _ _ h => h) (tst_run (decide_eq_true (by omega)) (by simp)))
      (lbase (qIndexS Tryz.underlying9 (fun _ _ h => h) (fun _ _ h => h) ((by omega)) rfl)
      (lbase (qTestN (op := .neq) (fun _ _ h => h) (tst_run (tst47 (hd j hj)) (by simp)))
      (lbase (qAddC' (fun _ _ h => h) rfl rfl (by omega) (by omega))
      lnil)))))⟩)
      (lbase (qLenS Tryz.underlying9 (fun _ _ h => h) rfl)
      (lbase (qTest (op := .lss) (fun _ _ h => h) (fun _ _ h => h) (tst_run (decide_eq_true (by omega)) (by simp)))
      (lbase (qIndexS Tryz.underlying9 (fun _ _ h => h) (fun _ _ h => h) (hk) rfl)
      (lbase (qTestN (op := .neq) (fun _ _ h => h) (tst_run (tst47n h47) (by simp)))
      lnil))))
      (fun q hq w v h => by
        rcases List.mem_singleton.1 hq with rfl
        exact h)) (lbase (qToS (i := k) Tryz.underlying9 (fun _ _ h => h) (fun _ _ h => h) (by omega) ht rfl)
      (lbase (tParse (fun _ _ h => h) h hz rfl)
      (lbase (qLenS Tryz.underlying9 (fun _ _ h => h) rfl)
      (lbase (qTest (op := .eql) (fun _ _ h => h) (fun _ _ h => h) (tst_run (tstEn (by omega)) (by simp)))
      (lbase (qAddC' (fun _ _ h => h) (by omega) rfl (by omega) (by omega))
      (lbase (qFromS (i := (k + 1)) Tryz.underlying9 (fun _ _ h => h) (fun _ _ h => h) (by omega) hu rfl)
      (lbase (tParse (fun _ _ h => h) h2 hy rfl)
      (lbase (qIndexSC 0 rfl Tryz.underlying9 (fun _ _ h => h) (hu0) rfl)
      (lbase (qTestN (op := .eql) (fun _ _ h => h) (tst_run (tst45n h3) (by simp)))
      (lbase (tZero dD (decide_eq_true h0))
      lnil)))))))))))
    (ins_ok [.fact 0 (.one (.t))] ⟨fun _ _ h => IsT h, trivial⟩) (fun _ _ _ h => h)

def b_pr_y3 (s t u : ByteArray) (k : Nat) (z y : Int) : List (World → Value → Prop) := [fun _ v => v = .string s, fun _ v => v = .int .i64 (k : Int), fun _ v => v = .string t, fun w v => DecI w v z 50, fun _ v => v = .int .i64 (s.size : Int), fun _ v => v = .int .i64 ((k + 1 : Nat) : Int), fun _ v => v = .string u, fun w v => DecI w v y 50, fun _ v => v = .int .u8 ((u.data.toList.getD 0 0).toNat : Int), fun w v => DecQ w v (qOf z y) (50 + 50 + 2), fun w v => DecI w v ((qOf z y).num) (50 + 50 + 2), fun w v => DecI w v ((qOf z y).den : Int) (50 + 50 + 2)]
def l_pr_y3 (s : ByteArray) (j : Nat) : List (World → Value → Prop) := [fun _ v => v = .int .i64 (j : Int), fun _ v => v = .int .i64 (s.size : Int), fun _ v => v = .int .u8 ((s.data.toList.getD j 0).toNat : Int), fun _ v => v = .int .i64 ((j : Int) + 1), fun _ v => v = .int .i64 (s.size : Int), fun _ v => v = .int .u8 ((s.data.toList.getD j 0).toNat : Int)]
def d_pr_y3 : LoopD := ⟨[0, 2, 3], [(.slot 4, .i)], [(.one 0, 12)], [.closed (.one (.ci .i64 0))], 12, [(12, 1)]⟩
def r_pr_y3_0 : List Step := [.base ⟨0, [.fact 0], [⟨.one (.i), [(0, 0, 13)]⟩], .quiet (mLen 9)⟩,
      .base ⟨0, [.fact 12, .fact 13], [⟨.one (.lit (.cb true)), []⟩], .quiet (mBin .lss)⟩,
      .base ⟨0, [.fact 0, .fact 12], [⟨.one (.nk), [(0, 0, 14)]⟩], .quiet (mIndex 9)⟩,
      .base ⟨0, [.fact 14, .lit (.ci .u8 47)], [⟨.one (.lit (.cb true)), []⟩], .quiet (mBin .neq)⟩,
      .base ⟨0, [.fact 12, .lit (.ci .i64 1)], [⟨.one (.i), [(0, 0, 15)]⟩], .quiet (mBin .add)⟩]
def o_pr_y3 : List Step := [.base ⟨0, [.fact 0], [⟨.one (.i), [(0, 0, 16)]⟩], .quiet (mLen 9)⟩,
      .base ⟨0, [.fact 12, .fact 16], [⟨.one (.lit (.cb true)), []⟩], .quiet (mBin .lss)⟩,
      .base ⟨0, [.fact 0, .fact 12], [⟨.one (.nk), [(0, 0, 17)]⟩], .quiet (mIndex 9)⟩,
      .base ⟨0, [.fact 17, .lit (.ci .u8 47)], [⟨.one (.lit (.cb false)), []⟩], .quiet (mBin .neq)⟩]
def ss_pr_y3 : List Step := [.loop d_pr_y3 [(r_pr_y3_0, [.from 15])] o_pr_y3,
      .base ⟨0, [.fact 0, .fact 1], [⟨.one (.t), [(0, 0, 2)]⟩], .quiet (mTo 9)⟩,
      .base ⟨17, [.fact 2], [⟨.agg [.s, .b], [(0, 0, 3)]⟩, ⟨.one (.lit (.cb true)), []⟩], true⟩,
      .base ⟨0, [.fact 0], [⟨.one (.i), [(0, 0, 4)]⟩], .quiet (mLen 9)⟩,
      .base ⟨0, [.fact 1, .fact 4], [⟨.one (.lit (.cb false)), []⟩], .quiet (mBin .eql)⟩,
      .base ⟨0, [.fact 1, .lit (.ci .i64 1)], [⟨.one (.i), [(0, 0, 5)]⟩], .quiet (mBin .add)⟩,
      .base ⟨0, [.fact 0, .fact 5], [⟨.one (.t), [(0, 0, 6)]⟩], .quiet (mFrom 9)⟩,
      .base ⟨17, [.fact 6], [⟨.agg [.s, .b], [(0, 0, 7)]⟩, ⟨.one (.lit (.cb true)), []⟩], true⟩,
      .base ⟨0, [.fact 6, .lit (.ci .i64 0)], [⟨.one (.nk), [(0, 0, 8)]⟩], .quiet (mIndex 9)⟩,
      .base ⟨0, [.fact 8, .lit (.ci .u8 45)], [⟨.one (.lit (.cb false)), []⟩], .quiet (mBin .eql)⟩,
      .base ⟨69, [.fact 7], [⟨.one (.lit (.cb false)), []⟩], false⟩,
      .base ⟨55, [.fact 3, .fact 7], [⟨.agg [.s, .b, .s, .b], [(0, 0, 9), (0, 2, 10), (2, 2, 11)]⟩], false⟩]
def ins_pr_y3 : List Out := [⟨.one (.t), [(0, 0, 0)]⟩]
set_option maxRecDepth 100000 in
theorem pr_y3 {s t u : ByteArray} {k : Nat} {z y : Int} (hd : ∀ j, j < k → (s.data.toList.getD j 0).toNat ≠ 47) (hk : k < s.size) (hs : s.size ≤ 90000) (h47 : (s.data.toList.getD k 0).toNat = 47) (ht : s.extract 0 k = t) (h : isNum t.data.toList = true) (hz : sNum t.data.toList = z) (hu : s.extract (k + 1) s.size = u) (h2 : isNum u.data.toList = true) (hy : sNum u.data.toList = y) (hu0 : 0 < u.size) (h3 : (u.data.toList.getD 0 0).toNat ≠ 45) (h0 : y ≠ 0) : SiteOk (ph (b_pr_y3 s t u k z y)) Tryz.prog ⟨36, [.fact 0], [⟨.agg [.s, .b, .s, .b], [(0, 0, 9), (0, 2, 10), (2, 2, 11)]⟩, ⟨.one (.lit (.ci .i64 0)), []⟩], true⟩ :=
  fn_okL ins_pr_y3 [⟨.agg [.s, .b, .s, .b], [(0, 0, 9), (0, 2, 10), (2, 2, 11)]⟩, ⟨.one (.lit (.ci .i64 0)), []⟩] ss_pr_y3 Tryz.func36 (by kernel_rfl)
    (lloop (counted k (fun j => ph (b_pr_y3 s t u k z y ++ l_pr_y3 s j)) (fun _ => 0) (fun j p hp => ph_app (show p < (b_pr_y3 s t u k z y).length from hp)) ⟨fun _ => rfl, trivial⟩ (fun j hj => ⟨(r_pr_y3_0, [.from 15]), rfl, ⟨fun _ _ h => (h : _ = Value.int .i64 ((j : Int) + 1)).trans (by simp), trivial⟩, (lbase (qLenS Tryz.underlying9 (fun _ _ h => h) rfl)
      (lbase (qTest (op := .lss) (fun _ _ h => h) (fun _ _ h => h) (tst_run (decide_eq_true (by omega)) (by simp)))
      (lbase (qIndexS Tryz.underlying9 (fun _ _ h => h) (fun _ _ h => h) ((by omega)) rfl)
      (lbase (qTestN (op := .neq) (fun _ _ h => h) (tst_run (tst47 (hd j hj)) (by simp)))
      (lbase (qAddC' (fun _ _ h => h) rfl rfl (by omega) (by omega))
      lnil)))))⟩)
      (lbase (qLenS Tryz.underlying9 (fun _ _ h => h) rfl)
      (lbase (qTest (op := .lss) (fun _ _ h => h) (fun _ _ h => h) (tst_run (decide_eq_true (by omega)) (by simp)))
      (lbase (qIndexS Tryz.underlying9 (fun _ _ h => h) (fun _ _ h => h) (hk) rfl)
      (lbase (qTestN (op := .neq) (fun _ _ h => h) (tst_run (tst47n h47) (by simp)))
      lnil))))
      (fun q hq w v h => by
        rcases List.mem_singleton.1 hq with rfl
        exact h)) (lbase (qToS (i := k) Tryz.underlying9 (fun _ _ h => h) (fun _ _ h => h) (by omega) ht rfl)
      (lbase (tParse (fun _ _ h => h) h hz rfl)
      (lbase (qLenS Tryz.underlying9 (fun _ _ h => h) rfl)
      (lbase (qTest (op := .eql) (fun _ _ h => h) (fun _ _ h => h) (tst_run (tstEn (by omega)) (by simp)))
      (lbase (qAddC' (fun _ _ h => h) (by omega) rfl (by omega) (by omega))
      (lbase (qFromS (i := (k + 1)) Tryz.underlying9 (fun _ _ h => h) (fun _ _ h => h) (by omega) hu rfl)
      (lbase (tParse (fun _ _ h => h) h2 hy rfl)
      (lbase (qIndexSC 0 rfl Tryz.underlying9 (fun _ _ h => h) (hu0) rfl)
      (lbase (qTestN (op := .eql) (fun _ _ h => h) (tst_run (tst45n h3) (by simp)))
      (lbase (tZero dD (decide_eq_false h0))
      (lbase (tMake dD dD rfl rfl rfl (by omega) rfl)
      lnil))))))))))))
    (ins_ok [.fact 0 (.one (.t))] ⟨fun _ _ h => IsT h, trivial⟩) (fun _ _ _ h => h)

theorem outs_s {Φ Ψ : Nat → World → Value → Prop} {s2 : CSh} {i i1 i2 j j1 j2 : Nat} (h0 : ∀ w v, Ψ i w v → Φ j w v) (h1 : ∀ w v, Ψ i1 w v → Φ j1 w v) (h2 : ∀ w v, Ψ i2 w v → Φ j2 w v) (X : Nat → Prop) (w : World) (us : List Value) (h : outsOk Ψ X w [⟨sS, [(0, 0, i), (0, 2, i1), (2, 2, i2)]⟩, ⟨s2, []⟩] us) : outsOk Φ X w [⟨sS, [(0, 0, j), (0, 2, j1), (2, 2, j2)]⟩, ⟨s2, []⟩] us := by
  match us, h with
  | [a, b], h =>
    refine ⟨⟨h.1.1, fun q hq w1 hw => ?_⟩, ⟨h.2.1.1, fun q hq => by cases hq⟩, trivial⟩
    simp only [List.mem_cons, List.not_mem_nil, or_false] at hq
    rcases hq with rfl | rfl | rfl
    · exact h0 _ _ (h.1.2 (0, 0, i) (by simp) w1 hw)
    · exact h1 _ _ (h.1.2 (0, 2, i1) (by simp) w1 hw)
    · exact h2 _ _ (h.1.2 (2, 2, i2) (by simp) w1 hw)
theorem no_slash {s : ByteArray} (h : ¬ hasSlash s.data.toList = true) : slashAt s.data.toList = s.size ∧ (s.extract 0 (slashAt s.data.toList)).data.toList = s.data.toList := by
  have h1 : ¬ slashAt s.data.toList < s.data.toList.length := fun e => h (decide_eq_true e)
  have h2 := slash_le s.data.toList
  have e : slashAt s.data.toList = s.size := by rw [Lib.size_eq]; omega
  exact ⟨e, by rw [top_list]; exact List.take_of_length_le (by rw [e, ← Lib.size_eq]; omega)⟩
theorem yes_slash {s : ByteArray} (h : hasSlash s.data.toList = true) : slashAt s.data.toList < s.size ∧ (s.data.toList.getD (slashAt s.data.toList) 0).toNat = 47 := by
  have h1 := of_decide_eq_true h
  exact ⟨by rw [Lib.size_eq]; exact h1, slash_is h1⟩
theorem num_pos {u : ByteArray} (h : isNum u.data.toList = true) : 0 < u.size := by
  have h1 := (isN_all h).1
  have h2 := unsig_len u.data.toList
  rw [Lib.size_eq]; omega
section
variable {Φ : Nat → World → Value → Prop} {p x x1 x2 : Nat} {s : ByteArray}
theorem tParseR4 (hp : ∀ w v, Φ p w v → v = .string s) (hs : s.size ≤ 90000) (h : rCode s.data.toList = 4) : SiteOk Φ Tryz.prog ⟨36, [.fact p], [⟨.agg [.lit .nl, .lit (.cb false), .lit .nl, .lit (.cb false)], []⟩, ⟨.one (.lit (.ci .i64 4)), []⟩], true⟩ := by
  unfold rCode rTop rUnd at h
  split at h
  · rename_i hc
    obtain ⟨hk, h47⟩ := yes_slash hc
    split at h
    · rename_i ht
      split at h
      · rename_i hu
        rw [← top_list] at ht
        rw [← und_list] at hu
        by_cases hn : isNum (s.extract (slashAt s.data.toList + 1) s.size).data.toList = true
        · rw [hn] at hu
          have hm : minusB (s.extract (slashAt s.data.toList + 1) s.size).data.toList = true := by simpa using hu
          exact viaT (pr_y1b (fun j hj => slash_ne hj) hk hs h47 rfl ht rfl rfl hn rfl (num_pos hn) (minus_of hm).2.1) (fun w v h => hp w v h) outs_2
        · exact viaT (pr_y1a (fun j hj => slash_ne hj) hk hs h47 rfl ht rfl rfl (by simpa using hn)) (fun w v h => hp w v h) outs_2
      · split at h <;> cases h
    · rename_i ht
      exact viaT (pr_y0 (fun j hj => slash_ne hj) hk hs h47 rfl (by rw [top_list]; simpa using ht)) (fun w v h => hp w v h) outs_2
  · rename_i hc
    obtain ⟨hk, he⟩ := no_slash hc
    split at h
    · cases h
    · rename_i ht
      exact viaT (pr_n0 (fun j hj => slash_ne hj) hk hs rfl (by rw [he]; simpa using ht)) (fun w v h => hp w v h) outs_2
theorem tParseR2 (hp : ∀ w v, Φ p w v → v = .string s) (hs : s.size ≤ 90000) (h : rCode s.data.toList = 2) : SiteOk Φ Tryz.prog ⟨36, [.fact p], [⟨.agg [.lit .nl, .lit (.cb false), .lit .nl, .lit (.cb false)], []⟩, ⟨.one (.lit (.ci .i64 2)), []⟩], true⟩ := by
  unfold rCode rTop rUnd at h
  split at h
  · rename_i hc
    obtain ⟨hk, h47⟩ := yes_slash hc
    split at h
    · rename_i ht
      split at h
      · cases h
      · rename_i hu
        split at h
        · rename_i h0
          have hu' : minusB (s.data.toList.drop (slashAt s.data.toList + 1)) = false ∧ isNum (s.data.toList.drop (slashAt s.data.toList + 1)) = true := by simpa using hu
          rw [← top_list] at ht
          rw [← und_list] at hu' h0
          have hn := num_pos hu'.2
          have h3 : ((s.extract (slashAt s.data.toList + 1) s.size).data.toList.getD 0 0).toNat ≠ 45 := by
            rcases (plus_of hu'.1).2 with h | h
            · omega
            · exact h.2
          exact viaT (pr_y2 (fun j hj => slash_ne hj) hk hs h47 rfl ht rfl rfl hu'.2 rfl hn h3 h0) (fun w v h => hp w v h) outs_2
        · cases h
    · cases h
  · split at h <;> cases h
theorem tParseR0 {t : Rat} (hp : ∀ w v, Φ p w v → v = .string s) (hs : s.size ≤ 90000) (h : rCode s.data.toList = 0) (ht : rQ s.data.toList = t) (hx : Φ x = fun w v => DecQ w v t 102) (hx1 : Φ x1 = fun w v => DecI w v t.num 102) (hx2 : Φ x2 = fun w v => DecI w v (t.den : Int) 102) :
    SiteOk Φ Tryz.prog ⟨36, [.fact p], [⟨sS, [(0, 0, x), (0, 2, x1), (2, 2, x2)]⟩, ⟨.one (.lit (.ci .i64 0)), []⟩], true⟩ := by
  subst ht
  unfold rCode rTop rUnd at h
  split at h
  · rename_i hc
    obtain ⟨hk, h47⟩ := yes_slash hc
    split at h
    · rename_i ht
      split at h
      · cases h
      · rename_i hu
        split at h
        · cases h
        · rename_i h0
          have hu' : minusB (s.data.toList.drop (slashAt s.data.toList + 1)) = false ∧ isNum (s.data.toList.drop (slashAt s.data.toList + 1)) = true := by simpa using hu
          have e : rQ s.data.toList = qOf (sNum (s.extract 0 (slashAt s.data.toList)).data.toList) (sNum (s.extract (slashAt s.data.toList + 1) s.size).data.toList) := by rw [qOf_ne (by rw [und_list]; exact h0), rQ, if_pos hc, top_list, und_list]; rfl
          rw [← top_list] at ht
          rw [← und_list] at hu' h0
          have hn := num_pos hu'.2
          have h3 : ((s.extract (slashAt s.data.toList + 1) s.size).data.toList.getD 0 0).toNat ≠ 45 := by
            rcases (plus_of hu'.1).2 with h | h
            · omega
            · exact h.2
          rw [e] at hx hx1 hx2
          exact viaT (pr_y3 (fun j hj => slash_ne hj) hk hs h47 rfl ht rfl rfl hu'.2 rfl hn h3 h0) (fun w v h => hp w v h) (outs_s (fun w v h => by rw [hx]; exact h) (fun w v h => by rw [hx1]; exact h) (fun w v h => by rw [hx2]; exact h))
    · cases h
  · rename_i hc
    obtain ⟨hk, he⟩ := no_slash hc
    split at h
    · rename_i ht
      have e : rQ s.data.toList = qOf (sNum (s.extract 0 (slashAt s.data.toList)).data.toList) 1 := by rw [he, qOf_one, rQ, if_neg hc]
      rw [e] at hx hx1 hx2
      exact viaT (pr_n1 (fun j hj => slash_ne hj) hk hs rfl (by rw [he]; exact ht) rfl) (fun w v h => hp w v h) (outs_s (fun w v h => by rw [hx]; exact DecQ.more h (by omega)) (fun w v h => by rw [hx1]; exact DecI.more h (by omega)) (fun w v h => by rw [hx2]; exact DecI.more h (by omega)))
    · cases h
end
end Go.Proofs.YtjakllpnbeagjaaGreatDoor.Sym
