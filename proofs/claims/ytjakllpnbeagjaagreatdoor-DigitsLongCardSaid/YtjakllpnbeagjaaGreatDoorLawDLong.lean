/- DigitsLong holds: for every int and every bool the law returns true. No condition but what the row lists. -/
import Derived.Test.YtjakllpnbeagjaaGreatDoorRowRat
import Derived.Test.YtjakllpnbeagjaaGreatDoorRefW
import Derived.Test.YtjakllpnbeagjaaGreatDoorDigL
namespace Go.Proofs.YtjakllpnbeagjaaGreatDoor.digitslong
open Go.ChangeShapes Go.WideShapes Go.ChangeAt Go.RowKit

open Go.Proofs.YtjakllpnbeagjaaGreatDoor.Sym hiding val run start
theorem stand_no (t : TypeId) (h : t ∈ ([46, 24, 3, 4, 9] : List TypeId)) : Tryz.prog.wantsStandIn t = false := by
  simp only [List.mem_cons, List.mem_nil_iff, or_false] at h
  rcases h with rfl | rfl | rfl | rfl | rfl <;> kernel_rfl
def b_path_ps (m0 : Int) (m n : Nat) (z : Int) : List (World → Value → Prop) := [fun _ v => v = .int .i64 m0, fun _ v => v = .int .i64 (m : Int), fun _ v => v = .int .i64 ((n : Nat) : Int), fun _ v => v = .string (longS n), fun w v => NorV w v z 50, fun _ v => v = .string (txtS z)]
def l_path_ps  (j : Nat) : List (World → Value → Prop) := [fun _ v => v = .string (longS j), fun _ v => v = .int .i64 (j : Int), fun _ v => v = .int .i64 (((j % 9) : Nat) : Int), fun _ v => v = .int .i64 (((49 + j % 9) : Nat) : Int), fun _ v => v = .int .u8 ((49 + j % 9) : Int), fun _ v => v = .agg #[.int .u8 (((49 + j % 9) : Nat) : Int)], fun _ v => v = .string (oneS j), fun _ v => v = .string (longS (j + 1)), fun _ v => v = .int .i64 ((j + 1 : Nat) : Int)]
def d_path_ps : LoopD := ⟨[0, 1, 4, 9, 10, 11], [(.slot 5, .t), (.slot 6, .i)], [(.one 0, 6), (.one 1, 7)], [.closed (.one (.cs [])), .closed (.one (.ci .i64 0))], 6, [(6, 3)]⟩
def r_path_ps_0 : List Step := [.base ⟨0, [.fact 7, .fact 2], [⟨.one (.lit (.cb true)), []⟩], .quiet (mBin .lss)⟩,
      .base ⟨0, [.fact 7, .lit (.ci .i64 9)], [⟨.one (.i), [(0, 0, 8)]⟩], .quiet (mRem)⟩,
      .base ⟨0, [.lit (.ci .i64 49), .fact 8], [⟨.one (.i), [(0, 0, 9)]⟩], .quiet (mBin .add)⟩,
      .base ⟨0, [.fact 9], [⟨.one (.nk), [(0, 0, 10), (0, 2, 11)]⟩], .quiet (mConv 3 5)⟩,
      .base ⟨0, [.row 1 [11]], [⟨.one (.t), [(0, 0, 12)]⟩], .quiet (mConv 55 9)⟩,
      .base ⟨0, [.fact 6, .fact 12], [⟨.one (.t), [(0, 0, 13)]⟩], .quiet (mBin .add)⟩,
      .base ⟨0, [.fact 7, .lit (.ci .i64 1)], [⟨.one (.i), [(0, 0, 14)]⟩], .quiet (mBin .add)⟩]
def o_path_ps : List Step := [.base ⟨0, [.fact 7, .fact 2], [⟨.one (.lit (.cb false)), []⟩], .quiet (mBin .lss)⟩]
def ss_path_ps : List Step := [.base ⟨20, [.fact 0, .lit (.ci .i64 6)], [⟨.one (.i), [(0, 0, 1)]⟩], false⟩,
      .base ⟨0, [.lit (.ci .i64 397), .fact 1], [⟨.one (.i), [(0, 0, 2)]⟩], .quiet (mBin .add)⟩,
      .loop d_path_ps [(r_path_ps_0, [.from 13, .from 14])] o_path_ps,
      .base ⟨16, [.fact 3], [⟨.agg [.b, .s], [(0, 0, 4)]⟩, ⟨.one (.lit (.ci .i64 0)), []⟩], true⟩,
      .base ⟨0, [.fact 2, .lit (.ci .i64 400)], [⟨.one (.lit (.cb false)), []⟩], .quiet (mBin .gtr)⟩,
      .base ⟨12, [.fact 4], [⟨.one (.t), [(0, 0, 5)]⟩], false⟩,
      .base ⟨0, [.fact 5, .fact 3], [⟨.one (.lit (.cb true)), []⟩], .quiet (mBin .eql)⟩,
      .base ⟨15, [], [⟨.one (.lit (.cb true)), []⟩], false⟩]
def ins_path_ps : List Out := [⟨.one (.i), [(0, 0, 0)]⟩, ⟨.one (.lit (.cb false)), []⟩]
set_option maxRecDepth 100000 in
theorem path_ps {m0 : Int} {m n : Nat} {z : Int} (hw : wi m0 6 = m) (hm : m < 6) (hn : n = 397 + m) (hb : n ≤ 400) (h1 : isNum (longS n).data.toList = true) (h2 : sNum (longS n).data.toList = z) (h3 : ((txtS z).toList == (longS n).toList) = true) : SiteOk (ph (b_path_ps m0 m n z)) Tryz.prog ⟨7, [.fact 0, .lit (.cb false)], [⟨.one (.lit (.cb true)), []⟩], false⟩ :=
  fn_okL ins_path_ps [⟨.one (.lit (.cb true)), []⟩] ss_path_ps Tryz.func7 (by kernel_rfl)
    (lbase (sWithinE (n := 6) (by omega) (fun _ _ h => h) (by omega) (by omega) hw rfl)
      (lbase (qAddL (fun _ _ h => h) (by omega) (by omega) (by omega) rfl)
      (lloop (counted n (fun j => ph (b_path_ps m0 m n z ++ l_path_ps  j)) (fun _ => 0) (fun j p hp => ph_app (show p < (b_path_ps m0 m n z).length from hp)) ⟨fun _ => rfl, fun _ => rfl, trivial⟩ (fun j hj => ⟨(r_path_ps_0, [.from 13, .from 14]), rfl, ⟨fun _ _ h => h, fun _ _ h => h, trivial⟩, (lbase (qTest (op := .lss) (fun _ _ h => h) (fun _ _ h => h) (tst_run (decide_eq_true (by omega)) (by simp)))
      (lbase (qRemC (b := 9) rfl (by decide) (fun _ _ h => h) (by omega) rfl)
      (lbase (qAddL (fun _ _ h => h) (by omega) (by omega) (by omega) rfl)
      (lbase (qConvB (by kernel_rfl) Tryz.underlying5 (fun _ _ h => h) (by omega) rfl rfl)
      (lbase (qStrB Tryz.underlying55 Tryz.underlying5 Tryz.underlying9 (fun _ _ h => h) rfl)
      (lbase (qCat (fun _ _ h => h) (fun _ _ h => h) (longS_succ j) ((by rw [longS_size, show (oneS j).size = 1 from rfl]; omega)) rfl)
      (lbase (qAddC' (fun _ _ h => h) (by omega) rfl (by omega) (by omega))
      lnil)))))))⟩)
      (lbase (qTest (op := .lss) (fun _ _ h => h) (fun _ _ h => h) (tst_run (decide_eq_false (by omega)) (by simp)))
      lnil)
      (fun q hq w v h => by
        rcases List.mem_singleton.1 hq with rfl
        exact h)) (lbase (sDParse (fun _ _ h => h) h1 h2 rfl)
      (lbase (qTestN (op := .gtr) (fun _ _ h => h) (tst_run (decide_eq_false (by omega)) (by simp)))
      (lbase (sText nI (by omega) rfl)
      (lbase (qEqT (fun _ _ h => h) (fun _ _ h => h) (h3))
      (lbase (sWakes3)
      lnil))))))))
    (ins_ok [.fact 0 (.one (.i)), .lit (.cb false)] ⟨fun _ _ h => IsJ h, (fun _ h => by cases h), trivial⟩) (fun _ _ _ h => h)

def b_path_pb (m0 : Int) (m n : Nat) : List (World → Value → Prop) := [fun _ v => v = .int .i64 m0, fun _ v => v = .int .i64 (m : Int), fun _ v => v = .int .i64 ((n : Nat) : Int), fun _ v => v = .string (longS n)]
def l_path_pb  (j : Nat) : List (World → Value → Prop) := [fun _ v => v = .string (longS j), fun _ v => v = .int .i64 (j : Int), fun _ v => v = .int .i64 (((j % 9) : Nat) : Int), fun _ v => v = .int .i64 (((49 + j % 9) : Nat) : Int), fun _ v => v = .int .u8 ((49 + j % 9) : Int), fun _ v => v = .agg #[.int .u8 (((49 + j % 9) : Nat) : Int)], fun _ v => v = .string (oneS j), fun _ v => v = .string (longS (j + 1)), fun _ v => v = .int .i64 ((j + 1 : Nat) : Int)]
def d_path_pb : LoopD := ⟨[0, 1, 4, 9, 10, 11], [(.slot 5, .t), (.slot 6, .i)], [(.one 0, 4), (.one 1, 5)], [.closed (.one (.cs [])), .closed (.one (.ci .i64 0))], 4, [(4, 3)]⟩
def r_path_pb_0 : List Step := [.base ⟨0, [.fact 5, .fact 2], [⟨.one (.lit (.cb true)), []⟩], .quiet (mBin .lss)⟩,
      .base ⟨0, [.fact 5, .lit (.ci .i64 9)], [⟨.one (.i), [(0, 0, 6)]⟩], .quiet (mRem)⟩,
      .base ⟨0, [.lit (.ci .i64 49), .fact 6], [⟨.one (.i), [(0, 0, 7)]⟩], .quiet (mBin .add)⟩,
      .base ⟨0, [.fact 7], [⟨.one (.nk), [(0, 0, 8), (0, 2, 9)]⟩], .quiet (mConv 3 5)⟩,
      .base ⟨0, [.row 1 [9]], [⟨.one (.t), [(0, 0, 10)]⟩], .quiet (mConv 55 9)⟩,
      .base ⟨0, [.fact 4, .fact 10], [⟨.one (.t), [(0, 0, 11)]⟩], .quiet (mBin .add)⟩,
      .base ⟨0, [.fact 5, .lit (.ci .i64 1)], [⟨.one (.i), [(0, 0, 12)]⟩], .quiet (mBin .add)⟩]
def o_path_pb : List Step := [.base ⟨0, [.fact 5, .fact 2], [⟨.one (.lit (.cb false)), []⟩], .quiet (mBin .lss)⟩]
def ss_path_pb : List Step := [.base ⟨20, [.fact 0, .lit (.ci .i64 6)], [⟨.one (.i), [(0, 0, 1)]⟩], false⟩,
      .base ⟨0, [.lit (.ci .i64 397), .fact 1], [⟨.one (.i), [(0, 0, 2)]⟩], .quiet (mBin .add)⟩,
      .loop d_path_pb [(r_path_pb_0, [.from 11, .from 12])] o_path_pb,
      .base ⟨16, [.fact 3], [⟨.agg [.lit (.cb false), .lit (.nl)], []⟩, ⟨.one (.lit (.ci .i64 4)), []⟩], true⟩,
      .base ⟨0, [.fact 2, .lit (.ci .i64 400)], [⟨.one (.lit (.cb true)), []⟩], .quiet (mBin .gtr)⟩,
      .base ⟨18, [.parts (.agg [.lit (.cb false), .lit .nl]) []], [⟨.one (.lit (.cb true)), []⟩], false⟩,
      .base ⟨15, [], [⟨.one (.lit (.cb true)), []⟩], false⟩]
def ins_path_pb : List Out := [⟨.one (.i), [(0, 0, 0)]⟩, ⟨.one (.lit (.cb false)), []⟩]
set_option maxRecDepth 100000 in
theorem path_pb {m0 : Int} {m n : Nat} (hw : wi m0 6 = m) (hm : m < 6) (hn : n = 397 + m) (hb : 400 < n) (h1 : isNum (longS n).data.toList = false) : SiteOk (ph (b_path_pb m0 m n)) Tryz.prog ⟨7, [.fact 0, .lit (.cb false)], [⟨.one (.lit (.cb true)), []⟩], false⟩ :=
  fn_okL ins_path_pb [⟨.one (.lit (.cb true)), []⟩] ss_path_pb Tryz.func7 (by kernel_rfl)
    (lbase (sWithinE (n := 6) (by omega) (fun _ _ h => h) (by omega) (by omega) hw rfl)
      (lbase (qAddL (fun _ _ h => h) (by omega) (by omega) (by omega) rfl)
      (lloop (counted n (fun j => ph (b_path_pb m0 m n ++ l_path_pb  j)) (fun _ => 0) (fun j p hp => ph_app (show p < (b_path_pb m0 m n).length from hp)) ⟨fun _ => rfl, fun _ => rfl, trivial⟩ (fun j hj => ⟨(r_path_pb_0, [.from 11, .from 12]), rfl, ⟨fun _ _ h => h, fun _ _ h => h, trivial⟩, (lbase (qTest (op := .lss) (fun _ _ h => h) (fun _ _ h => h) (tst_run (decide_eq_true (by omega)) (by simp)))
      (lbase (qRemC (b := 9) rfl (by decide) (fun _ _ h => h) (by omega) rfl)
      (lbase (qAddL (fun _ _ h => h) (by omega) (by omega) (by omega) rfl)
      (lbase (qConvB (by kernel_rfl) Tryz.underlying5 (fun _ _ h => h) (by omega) rfl rfl)
      (lbase (qStrB Tryz.underlying55 Tryz.underlying5 Tryz.underlying9 (fun _ _ h => h) rfl)
      (lbase (qCat (fun _ _ h => h) (fun _ _ h => h) (longS_succ j) ((by rw [longS_size, show (oneS j).size = 1 from rfl]; omega)) rfl)
      (lbase (qAddC' (fun _ _ h => h) (by omega) rfl (by omega) (by omega))
      lnil)))))))⟩)
      (lbase (qTest (op := .lss) (fun _ _ h => h) (fun _ _ h => h) (tst_run (decide_eq_false (by omega)) (by simp)))
      lnil)
      (fun q hq w v h => by
        rcases List.mem_singleton.1 hq with rfl
        exact h)) (lbase (sDParseNo (fun _ _ h => h) h1)
      (lbase (qTestN (op := .gtr) (fun _ _ h => h) (tst_run (decide_eq_true (by omega)) (by simp)))
      (lbase (sIZero0)
      (lbase (sWakes3)
      lnil)))))))
    (ins_ok [.fact 0 (.one (.i)), .lit (.cb false)] ⟨fun _ _ h => IsJ h, (fun _ h => by cases h), trivial⟩) (fun _ _ _ h => h)

def b_path_ns (m0 : Int) (m n : Nat) (z : Int) : List (World → Value → Prop) := [fun _ v => v = .int .i64 m0, fun _ v => v = .int .i64 (m : Int), fun _ v => v = .int .i64 ((n : Nat) : Int), fun _ v => v = .string (longS n), fun _ v => v = .string (negS n), fun w v => NorV w v z 50, fun _ v => v = .string (txtS z)]
def l_path_ns  (j : Nat) : List (World → Value → Prop) := [fun _ v => v = .string (longS j), fun _ v => v = .int .i64 (j : Int), fun _ v => v = .int .i64 (((j % 9) : Nat) : Int), fun _ v => v = .int .i64 (((49 + j % 9) : Nat) : Int), fun _ v => v = .int .u8 ((49 + j % 9) : Int), fun _ v => v = .agg #[.int .u8 (((49 + j % 9) : Nat) : Int)], fun _ v => v = .string (oneS j), fun _ v => v = .string (longS (j + 1)), fun _ v => v = .int .i64 ((j + 1 : Nat) : Int)]
def d_path_ns : LoopD := ⟨[0, 1, 4, 9, 10, 11], [(.slot 5, .t), (.slot 6, .i)], [(.one 0, 7), (.one 1, 8)], [.closed (.one (.cs [])), .closed (.one (.ci .i64 0))], 7, [(7, 3)]⟩
def r_path_ns_0 : List Step := [.base ⟨0, [.fact 8, .fact 2], [⟨.one (.lit (.cb true)), []⟩], .quiet (mBin .lss)⟩,
      .base ⟨0, [.fact 8, .lit (.ci .i64 9)], [⟨.one (.i), [(0, 0, 9)]⟩], .quiet (mRem)⟩,
      .base ⟨0, [.lit (.ci .i64 49), .fact 9], [⟨.one (.i), [(0, 0, 10)]⟩], .quiet (mBin .add)⟩,
      .base ⟨0, [.fact 10], [⟨.one (.nk), [(0, 0, 11), (0, 2, 12)]⟩], .quiet (mConv 3 5)⟩,
      .base ⟨0, [.row 1 [12]], [⟨.one (.t), [(0, 0, 13)]⟩], .quiet (mConv 55 9)⟩,
      .base ⟨0, [.fact 7, .fact 13], [⟨.one (.t), [(0, 0, 14)]⟩], .quiet (mBin .add)⟩,
      .base ⟨0, [.fact 8, .lit (.ci .i64 1)], [⟨.one (.i), [(0, 0, 15)]⟩], .quiet (mBin .add)⟩]
def o_path_ns : List Step := [.base ⟨0, [.fact 8, .fact 2], [⟨.one (.lit (.cb false)), []⟩], .quiet (mBin .lss)⟩]
def ss_path_ns : List Step := [.base ⟨20, [.fact 0, .lit (.ci .i64 6)], [⟨.one (.i), [(0, 0, 1)]⟩], false⟩,
      .base ⟨0, [.lit (.ci .i64 397), .fact 1], [⟨.one (.i), [(0, 0, 2)]⟩], .quiet (mBin .add)⟩,
      .loop d_path_ns [(r_path_ns_0, [.from 14, .from 15])] o_path_ns,
      .base ⟨0, [.lit (.cs [45]), .fact 3], [⟨.one (.t), [(0, 0, 4)]⟩], .quiet (mBin .add)⟩,
      .base ⟨16, [.fact 4], [⟨.agg [.b, .s], [(0, 0, 5)]⟩, ⟨.one (.lit (.ci .i64 0)), []⟩], true⟩,
      .base ⟨0, [.fact 2, .lit (.ci .i64 400)], [⟨.one (.lit (.cb false)), []⟩], .quiet (mBin .gtr)⟩,
      .base ⟨12, [.fact 5], [⟨.one (.t), [(0, 0, 6)]⟩], false⟩,
      .base ⟨0, [.fact 6, .fact 4], [⟨.one (.lit (.cb true)), []⟩], .quiet (mBin .eql)⟩,
      .base ⟨15, [], [⟨.one (.lit (.cb true)), []⟩], false⟩]
def ins_path_ns : List Out := [⟨.one (.i), [(0, 0, 0)]⟩, ⟨.one (.lit (.cb true)), []⟩]
set_option maxRecDepth 100000 in
theorem path_ns {m0 : Int} {m n : Nat} {z : Int} (hw : wi m0 6 = m) (hm : m < 6) (hn : n = 397 + m) (hb : n ≤ 400) (h1 : isNum (negS n).data.toList = true) (h2 : sNum (negS n).data.toList = z) (h3 : ((txtS z).toList == (negS n).toList) = true) : SiteOk (ph (b_path_ns m0 m n z)) Tryz.prog ⟨7, [.fact 0, .lit (.cb true)], [⟨.one (.lit (.cb true)), []⟩], false⟩ :=
  fn_okL ins_path_ns [⟨.one (.lit (.cb true)), []⟩] ss_path_ns Tryz.func7 (by kernel_rfl)
    (lbase (sWithinE (n := 6) (by omega) (fun _ _ h => h) (by omega) (by omega) hw rfl)
      (lbase (qAddL (fun _ _ h => h) (by omega) (by omega) (by omega) rfl)
      (lloop (counted n (fun j => ph (b_path_ns m0 m n z ++ l_path_ns  j)) (fun _ => 0) (fun j p hp => ph_app (show p < (b_path_ns m0 m n z).length from hp)) ⟨fun _ => rfl, fun _ => rfl, trivial⟩ (fun j hj => ⟨(r_path_ns_0, [.from 14, .from 15]), rfl, ⟨fun _ _ h => h, fun _ _ h => h, trivial⟩, (lbase (qTest (op := .lss) (fun _ _ h => h) (fun _ _ h => h) (tst_run (decide_eq_true (by omega)) (by simp)))
      (lbase (qRemC (b := 9) rfl (by decide) (fun _ _ h => h) (by omega) rfl)
      (lbase (qAddL (fun _ _ h => h) (by omega) (by omega) (by omega) rfl)
      (lbase (qConvB (by kernel_rfl) Tryz.underlying5 (fun _ _ h => h) (by omega) rfl rfl)
      (lbase (qStrB Tryz.underlying55 Tryz.underlying5 Tryz.underlying9 (fun _ _ h => h) rfl)
      (lbase (qCat (fun _ _ h => h) (fun _ _ h => h) (longS_succ j) ((by rw [longS_size, show (oneS j).size = 1 from rfl]; omega)) rfl)
      (lbase (qAddC' (fun _ _ h => h) (by omega) rfl (by omega) (by omega))
      lnil)))))))⟩)
      (lbase (qTest (op := .lss) (fun _ _ h => h) (fun _ _ h => h) (tst_run (decide_eq_false (by omega)) (by simp)))
      lnil)
      (fun q hq w v h => by
        rcases List.mem_singleton.1 hq with rfl
        exact h)) (lbase (qCatR (fun _ _ h => h) (negS_cat n) ((by rw [show (⟨[45].toArray⟩ : ByteArray).size = 1 from rfl, longS_size]; omega)) rfl)
      (lbase (sDParse (fun _ _ h => h) h1 h2 rfl)
      (lbase (qTestN (op := .gtr) (fun _ _ h => h) (tst_run (decide_eq_false (by omega)) (by simp)))
      (lbase (sText nI (by omega) rfl)
      (lbase (qEqT (fun _ _ h => h) (fun _ _ h => h) (h3))
      (lbase (sWakes3)
      lnil)))))))))
    (ins_ok [.fact 0 (.one (.i)), .lit (.cb true)] ⟨fun _ _ h => IsJ h, (fun _ h => by cases h), trivial⟩) (fun _ _ _ h => h)

def b_path_nb (m0 : Int) (m n : Nat) : List (World → Value → Prop) := [fun _ v => v = .int .i64 m0, fun _ v => v = .int .i64 (m : Int), fun _ v => v = .int .i64 ((n : Nat) : Int), fun _ v => v = .string (longS n), fun _ v => v = .string (negS n)]
def l_path_nb  (j : Nat) : List (World → Value → Prop) := [fun _ v => v = .string (longS j), fun _ v => v = .int .i64 (j : Int), fun _ v => v = .int .i64 (((j % 9) : Nat) : Int), fun _ v => v = .int .i64 (((49 + j % 9) : Nat) : Int), fun _ v => v = .int .u8 ((49 + j % 9) : Int), fun _ v => v = .agg #[.int .u8 (((49 + j % 9) : Nat) : Int)], fun _ v => v = .string (oneS j), fun _ v => v = .string (longS (j + 1)), fun _ v => v = .int .i64 ((j + 1 : Nat) : Int)]
def d_path_nb : LoopD := ⟨[0, 1, 4, 9, 10, 11], [(.slot 5, .t), (.slot 6, .i)], [(.one 0, 5), (.one 1, 6)], [.closed (.one (.cs [])), .closed (.one (.ci .i64 0))], 5, [(5, 3)]⟩
def r_path_nb_0 : List Step := [.base ⟨0, [.fact 6, .fact 2], [⟨.one (.lit (.cb true)), []⟩], .quiet (mBin .lss)⟩,
      .base ⟨0, [.fact 6, .lit (.ci .i64 9)], [⟨.one (.i), [(0, 0, 7)]⟩], .quiet (mRem)⟩,
      .base ⟨0, [.lit (.ci .i64 49), .fact 7], [⟨.one (.i), [(0, 0, 8)]⟩], .quiet (mBin .add)⟩,
      .base ⟨0, [.fact 8], [⟨.one (.nk), [(0, 0, 9), (0, 2, 10)]⟩], .quiet (mConv 3 5)⟩,
      .base ⟨0, [.row 1 [10]], [⟨.one (.t), [(0, 0, 11)]⟩], .quiet (mConv 55 9)⟩,
      .base ⟨0, [.fact 5, .fact 11], [⟨.one (.t), [(0, 0, 12)]⟩], .quiet (mBin .add)⟩,
      .base ⟨0, [.fact 6, .lit (.ci .i64 1)], [⟨.one (.i), [(0, 0, 13)]⟩], .quiet (mBin .add)⟩]
def o_path_nb : List Step := [.base ⟨0, [.fact 6, .fact 2], [⟨.one (.lit (.cb false)), []⟩], .quiet (mBin .lss)⟩]
def ss_path_nb : List Step := [.base ⟨20, [.fact 0, .lit (.ci .i64 6)], [⟨.one (.i), [(0, 0, 1)]⟩], false⟩,
      .base ⟨0, [.lit (.ci .i64 397), .fact 1], [⟨.one (.i), [(0, 0, 2)]⟩], .quiet (mBin .add)⟩,
      .loop d_path_nb [(r_path_nb_0, [.from 12, .from 13])] o_path_nb,
      .base ⟨0, [.lit (.cs [45]), .fact 3], [⟨.one (.t), [(0, 0, 4)]⟩], .quiet (mBin .add)⟩,
      .base ⟨16, [.fact 4], [⟨.agg [.lit (.cb false), .lit (.nl)], []⟩, ⟨.one (.lit (.ci .i64 4)), []⟩], true⟩,
      .base ⟨0, [.fact 2, .lit (.ci .i64 400)], [⟨.one (.lit (.cb true)), []⟩], .quiet (mBin .gtr)⟩,
      .base ⟨18, [.parts (.agg [.lit (.cb false), .lit .nl]) []], [⟨.one (.lit (.cb true)), []⟩], false⟩,
      .base ⟨15, [], [⟨.one (.lit (.cb true)), []⟩], false⟩]
def ins_path_nb : List Out := [⟨.one (.i), [(0, 0, 0)]⟩, ⟨.one (.lit (.cb true)), []⟩]
set_option maxRecDepth 100000 in
theorem path_nb {m0 : Int} {m n : Nat} (hw : wi m0 6 = m) (hm : m < 6) (hn : n = 397 + m) (hb : 400 < n) (h1 : isNum (negS n).data.toList = false) : SiteOk (ph (b_path_nb m0 m n)) Tryz.prog ⟨7, [.fact 0, .lit (.cb true)], [⟨.one (.lit (.cb true)), []⟩], false⟩ :=
  fn_okL ins_path_nb [⟨.one (.lit (.cb true)), []⟩] ss_path_nb Tryz.func7 (by kernel_rfl)
    (lbase (sWithinE (n := 6) (by omega) (fun _ _ h => h) (by omega) (by omega) hw rfl)
      (lbase (qAddL (fun _ _ h => h) (by omega) (by omega) (by omega) rfl)
      (lloop (counted n (fun j => ph (b_path_nb m0 m n ++ l_path_nb  j)) (fun _ => 0) (fun j p hp => ph_app (show p < (b_path_nb m0 m n).length from hp)) ⟨fun _ => rfl, fun _ => rfl, trivial⟩ (fun j hj => ⟨(r_path_nb_0, [.from 12, .from 13]), rfl, ⟨fun _ _ h => h, fun _ _ h => h, trivial⟩, (lbase (qTest (op := .lss) (fun _ _ h => h) (fun _ _ h => h) (tst_run (decide_eq_true (by omega)) (by simp)))
      (lbase (qRemC (b := 9) rfl (by decide) (fun _ _ h => h) (by omega) rfl)
      (lbase (qAddL (fun _ _ h => h) (by omega) (by omega) (by omega) rfl)
      (lbase (qConvB (by kernel_rfl) Tryz.underlying5 (fun _ _ h => h) (by omega) rfl rfl)
      (lbase (qStrB Tryz.underlying55 Tryz.underlying5 Tryz.underlying9 (fun _ _ h => h) rfl)
      (lbase (qCat (fun _ _ h => h) (fun _ _ h => h) (longS_succ j) ((by rw [longS_size, show (oneS j).size = 1 from rfl]; omega)) rfl)
      (lbase (qAddC' (fun _ _ h => h) (by omega) rfl (by omega) (by omega))
      lnil)))))))⟩)
      (lbase (qTest (op := .lss) (fun _ _ h => h) (fun _ _ h => h) (tst_run (decide_eq_false (by omega)) (by simp)))
      lnil)
      (fun q hq w v h => by
        rcases List.mem_singleton.1 hq with rfl
        exact h)) (lbase (qCatR (fun _ _ h => h) (negS_cat n) ((by rw [show (⟨[45].toArray⟩ : ByteArray).size = 1 from rfl, longS_size]; omega)) rfl)
      (lbase (sDParseNo (fun _ _ h => h) h1)
      (lbase (qTestN (op := .gtr) (fun _ _ h => h) (tst_run (decide_eq_true (by omega)) (by simp)))
      (lbase (sIZero0)
      (lbase (sWakes3)
      lnil))))))))
    (ins_ok [.fact 0 (.one (.i)), .lit (.cb true)] ⟨fun _ _ h => IsJ h, (fun _ h => by cases h), trivial⟩) (fun _ _ _ h => h)
theorem walk (m0 : Int) (_ : -9223372036854775808 ≤ m0) (_ : m0 ≤ 9223372036854775807) (b : Bool) {w : World} : Calls Tryz.prog 7 #[.int .i64 m0, .bool b] w (Bool_ w true) := by
  have hm := wi_lt m0 (n := 6) (by omega)
  have h1 : 1 ≤ 397 + wi m0 6 := by omega
  by_cases h : 397 + wi m0 6 ≤ 400
  · cases b
    · exact law_true (path_ps rfl hm rfl h (by rw [long_isNum h1]; exact decide_eq_true h) (long_num h1) (bd400 (long_txt h1).symm)) (vs := [.int .i64 m0, .bool false]) ⟨arg_kp rfl (fun _ _ _ _ h => h) rfl, rfl, trivial⟩
    · exact law_true (path_ns rfl hm rfl h (by rw [neg_isNum h1]; exact decide_eq_true h) (neg_num _) (bd400 (neg_txt h1).symm)) (vs := [.int .i64 m0, .bool true]) ⟨arg_kp rfl (fun _ _ _ _ h => h) rfl, rfl, trivial⟩
  · cases b
    · exact law_true (path_pb rfl hm rfl (by omega) (by rw [long_isNum h1]; exact decide_eq_false h)) (vs := [.int .i64 m0, .bool false]) ⟨arg_kp rfl (fun _ _ _ _ h => h) rfl, rfl, trivial⟩
    · exact law_true (path_nb rfl hm rfl (by omega) (by rw [neg_isNum h1]; exact decide_eq_false h)) (vs := [.int .i64 m0, .bool true]) ⟨arg_kp rfl (fun _ _ _ _ h => h) rfl, rfl, trivial⟩
set_option maxRecDepth 100000 in
theorem lifted (os : Os) (started : os.Started) (H : Type) (enc : TypeId × Value → H) :
    ReturnsInHanded {} Tryz.checked os 7 .any (fun w args => (Rows.digitsLongSpec.pre enc Tryz.prog Tryz.f7 [] false w args ∧ laidMetH Tryz.prog Rows.digitsLongRow.laid w) ∧ sizedMet enc Tryz.prog Tryz.f7 (OpenSpec.ofChange Rows.digitsLongSpec) false w args) (Rows.digitsLongSpec.post enc Tryz.prog Tryz.f7 false true false false) := by
  refine returnsInHanded_of_change_and (C := Tryz.checked) (X := fun w _ => laidMetH Tryz.prog Rows.digitsLongRow.laid w) (fun _ _ _ hh h => h.of_heap hh) Tryz.own started (by kernel_rfl) Tryz.func7
    (ChangeSpec.witness_at (enc := enc) (C := Tryz.checked) (os := os) (X := fun w _ => laidMetH Tryz.prog Rows.digitsLongRow.laid w) false (World.laidAll Tryz.prog os Rows.digitsLongRow.laid) #[.int .i64 0, .bool false] 8 (World.laidAll_os _ _ _) (by kernel_rfl) (by kernel_rfl) (by kernel_rfl) (by kernel_rfl) (by kernel_rfl)
      (by rw [MakeChecks.laidMetH_plain _ _ _ (by kernel_rfl)]; exact laidMet_laidAll _ (by kernel_rfl) (by kernel_rfl))) ?_
  intro W base args ds gs before hval0 hW _ _ _ _
  have hval : ∀ (j : Nat) t v, Tryz.f7.params[j]? = some t → args[j]? = some v → Value.okWide Tryz.prog W .any base t v := hval0
  obtain ⟨p, q, hA0, hV, rfl, _, _⟩ := id hW
  have hA : DataW.TrodAll enc Tryz.prog W 0 (fun _ => true) true Tryz.f7.params.toList args.toList ds p := hA0
  rw [Tryz.params7] at hA hval
  obtain ⟨v0, vs0, d0, ds0, p0, q0, hargs, rfl, rfl, h0, r0⟩ := trodAll_cons hA
  obtain ⟨v1, vs1, d1, ds1, p1, q1, rfl, rfl, rfl, h1, r1⟩ := trodAll_cons r0
  obtain ⟨rfl, rfl, rfl⟩ := trodAll_nil r1
  obtain rfl : args = #[v0, v1] := by cases args; simp_all
  obtain ⟨n0, rfl, rfl, rfl, f0⟩ := open_int Tryz.underlying3 (hval 0 3 v0 rfl rfl) h0
  obtain ⟨n1, rfl, rfl, rfl⟩ := open_bool Tryz.underlying4 (hval 1 4 v1 rfl rfl) h1
  refine (walk n0 (wf_lo f0) (wf_hi f0) n1).mono fun e W' ⟨he, hg⟩ => ?_
  subst he
  refine ⟨_, rfl, law_post Tryz.laidOut rfl (by kernel_rfl) Tryz.underlying4 ?_ ?_ hW hg⟩
  · rw [Tryz.params7]; decide +kernel
  · rw [Tryz.params7]
    intro ds h
    match ds, h with
    | [_, _], _ => rfl

theorem row_holds : Rows.DigitsLongSaid :=
  OpenClaim.holds_of_wide 7 Tryz.f7 rfl rfl rfl rfl rfl rfl rfl ⟨rfl, rfl, rfl, rfl, rfl⟩ rfl rfl rfl rfl rfl (by kernel_rfl) Tryz.func7 (by kernel_rfl)
    (of_decide_eq_true (by kernel_rfl)) (by unfold Func.isWrapper; first | (rw [if_pos (by decide +kernel)]; kernel_rfl) | (rw [if_neg (by decide +kernel)]; exact ⟨rfl, rfl⟩))
    (fun os started H enc _ => lifted os started H enc)
theorem holds : Rows.DigitsLongCardSaid :=
  Claim7.holds_tied_plain_at .later [] Rows.digitsLongCard.laidKinds true Rows.digitsLongCard.stood.harness true
    row_holds (fun _ h => by cases h) (by kernel_rfl) (fun _ h => by cases h) digitsLong_row_tie rfl ⟨rfl, rfl⟩ (by kernel_rfl) rfl
    (fun f fn hf hfn => by
      obtain rfl : f = 7 := Option.some.inj ((show Tryz.prog.funcNamed "orrery/orrerylaw03.DigitsLong" = some 7 by kernel_rfl).symm.trans hf) |>.symm
      obtain rfl : fn = Tryz.f7 := (Option.some.inj (Tryz.func7.symm.trans hfn)).symm
      exact ⟨by kernel_rfl, fun j t ht => by rw [Tryz.params7] at ht; exact stand_no t (by rcases j with _ | _ | _ | _ | _ | j <;> simp at ht <;> simp [← ht])⟩)
    (by kernel_rfl)

end Go.Proofs.YtjakllpnbeagjaaGreatDoor.digitslong
