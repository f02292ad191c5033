/- DigitsBack holds: for every number and every int the law returns true. No condition but what the row lists. -/
import Derived.Test.YtjakllpnbeagjaaGreatDoorRowRat
import Derived.Test.YtjakllpnbeagjaaGreatDoorRefW
import Derived.Test.YtjakllpnbeagjaaGreatDoorDigZ
namespace Go.Proofs.YtjakllpnbeagjaaGreatDoor.digitsback
open Go.ChangeShapes Go.WideShapes Go.ChangeAt Go.RowKit

open Go.Proofs.YtjakllpnbeagjaaGreatDoor.Sym hiding val run start
theorem stand_no (t : TypeId) (h : t ∈ ([46, 24, 3, 4, 9] : List TypeId)) : Tryz.prog.wantsStandIn t = false := by
  simp only [List.mem_cons, List.mem_nil_iff, or_false] at h
  rcases h with rfl | rfl | rfl | rfl | rfl <;> kernel_rfl
def b_path_p (a0 : Bool) (xs0 : List Nat) (z0 : Int) (m0 : Int) (m : Nat) : List (World → Value → Prop) := [fun w v => RawI w v a0 xs0, fun _ v => v = .int .i64 m0, fun w v => RawI w v a0 (xs0.take 20), fun w v => IntV w v z0 20, fun _ v => v = .string (txtS z0), fun _ v => v = .int .u8 (((txtS z0).data.toList.getD 0 0).toNat : Int), fun _ v => v = .int .i64 (m : Int), fun _ v => v = .string (zS m (txtS z0)), fun _ v => v = .int .u8 (((txtS z0).data.toList.getD 0 0).toNat : Int), fun w v => NorV w v z0 50, fun w v => NorV w v z0 50, fun w v => DecI w v z0 20, fun _ v => v = .string (txtS z0)]
def l_path_p (z0 : Int) (m : Nat) (j : Nat) : List (World → Value → Prop) := [fun _ v => v = .string (zS j (txtS z0)), fun _ v => v = .int .i64 ((m - j : Nat) : Int), fun _ v => v = .string (zS (j + 1) (txtS z0)), fun _ v => v = .int .i64 ((m - (j + 1) : Nat) : Int)]
def d_path_p : LoopD := ⟨[0, 1, 2, 4, 5, 12, 13, 14, 15, 16, 17, 18, 19, 20, 21, 24, 25], [(.slot 6, .t), (.slot 7, .i)], [(.one 0, 13), (.one 1, 14)], [.from 4, .from 6], 13, [(13, 7)]⟩
def r_path_p_0 : List Step := [.base ⟨0, [.fact 14, .lit (.ci .i64 0)], [⟨.one (.lit (.cb true)), []⟩], .quiet (mBin .gtr)⟩,
      .base ⟨0, [.lit (.cs [48]), .fact 13], [⟨.one (.t), [(0, 0, 15)]⟩], .quiet (mBin .add)⟩,
      .base ⟨0, [.fact 14, .lit (.ci .i64 1)], [⟨.one (.i), [(0, 0, 16)]⟩], .quiet (mBin .sub)⟩]
def o_path_p : List Step := [.base ⟨0, [.fact 14, .lit (.ci .i64 0)], [⟨.one (.lit (.cb false)), []⟩], .quiet (mBin .gtr)⟩]
def ss_path_p : List Step := [.base ⟨11, [.fact 0, .lit (.ci .i64 20)], [⟨.agg [.b, .s], [(0, 0, 2), (0, 0, 3)]⟩], false⟩,
      .base ⟨12, [.fact 3], [⟨.one (.t), [(0, 0, 4)]⟩], false⟩,
      .base ⟨0, [.fact 4, .lit (.cs [])], [⟨.one (.lit (.cb false)), []⟩], .quiet (mBin .eql)⟩,
      .base ⟨0, [.fact 4, .lit (.ci .i64 0)], [⟨.one (.nk), [(0, 0, 5)]⟩], .quiet (mIndex 9)⟩,
      .base ⟨0, [.fact 5, .lit (.ci .u8 45)], [⟨.one (.lit (.cb false)), []⟩], .quiet (mBin .eql)⟩,
      .base ⟨20, [.fact 1, .lit (.ci .i64 30)], [⟨.one (.i), [(0, 0, 6)]⟩], false⟩,
      .loop d_path_p [(r_path_p_0, [.from 15, .from 16])] o_path_p,
      .base ⟨0, [.fact 4, .lit (.ci .i64 0)], [⟨.one (.nk), [(0, 0, 8)]⟩], .quiet (mIndex 9)⟩,
      .base ⟨0, [.fact 8, .lit (.ci .u8 45)], [⟨.one (.lit (.cb false)), []⟩], .quiet (mBin .eql)⟩,
      .base ⟨16, [.fact 7], [⟨.agg [.b, .s], [(0, 0, 9)]⟩, ⟨.one (.lit (.ci .i64 0)), []⟩], true⟩,
      .base ⟨16, [.fact 4], [⟨.agg [.b, .s], [(0, 0, 10)]⟩, ⟨.one (.lit (.ci .i64 0)), []⟩], true⟩,
      .base ⟨21, [.fact 9, .fact 10], [⟨.one (.lit (.cb true)), []⟩], false⟩,
      .base ⟨14, [.fact 3], [⟨.agg [.s, .b], [(0, 0, 11)]⟩], false⟩,
      .base ⟨19, [.fact 11, .fact 9], [⟨.one (.lit (.cb true)), []⟩], false⟩,
      .base ⟨12, [.fact 9], [⟨.one (.t), [(0, 0, 12)]⟩], false⟩,
      .base ⟨0, [.fact 12, .fact 4], [⟨.one (.lit (.cb true)), []⟩], .quiet (mBin .eql)⟩,
      .base ⟨15, [], [⟨.one (.lit (.cb true)), []⟩], false⟩]
def ins_path_p : List Out := [⟨.agg [.b, .s], [(0, 0, 0)]⟩, ⟨.one (.i), [(0, 0, 1)]⟩]
set_option maxRecDepth 100000 in
theorem path_p {a0 : Bool} {xs0 : List Nat} {z0 : Int} {m0 : Int} {m : Nat} (hz0 : sg a0 (Proofs.YtjakllpnbeagjaaGreatDoor.val 4294967296 (xs0.take 20)) = z0) (hw : wi m0 30 = m) (hm : m < 30) (hbs : (txtS z0).size ≤ 300) (h1 : isNum (zS m (txtS z0)).data.toList = true) (h2 : sNum (zS m (txtS z0)).data.toList = z0) (h3 : isNum (txtS z0).data.toList = true) (h4 : sNum (txtS z0).data.toList = z0) (h0 : ¬ z0 < 0) : SiteOk (ph (b_path_p a0 xs0 z0 m0 m)) Tryz.prog ⟨5, [.fact 0, .fact 1], [⟨.one (.lit (.cb true)), []⟩], false⟩ :=
  fn_okL ins_path_p [⟨.one (.lit (.cb true)), []⟩] ss_path_p Tryz.func5 (by kernel_rfl)
    (lbase (sKIntR 20 rfl (fun _ _ h => h) rfl rfl hz0)
      (lbase (sText iI (by omega) rfl)
      (lbase (qEqTL (fun _ _ h => h) (txtS_ne _))
      (lbase (qIndexSC 0 rfl Tryz.underlying9 (fun _ _ h => h) (txtS_pos _) rfl)
      (lbase (qTestN (op := .eql) (fun _ _ h => h) (tst_run (tst45n (txtS_nneg h0)) (by simp)))
      (lbase (sWithinE (n := 30) (by omega) (fun _ _ h => h) (by omega) (by omega) hw rfl)
      (lloop (counted m (fun j => ph (b_path_p a0 xs0 z0 m0 m ++ l_path_p z0 m j)) (fun _ => 0) (fun j p hp => ph_app (show p < (b_path_p a0 xs0 z0 m0 m).length from hp)) ⟨fun _ _ h => by
        show _ = Value.string (zS 0 _)
        rw [zS_zero]; exact h, fun _ _ h => h, trivial⟩ (fun j hj => ⟨(r_path_p_0, [.from 15, .from 16]), rfl, ⟨fun _ _ h => h, fun _ _ h => h, trivial⟩, (lbase (qTestN (op := .gtr) (fun _ _ h => h) (tst_run (decide_eq_true (by omega)) (by simp)))
      (lbase (qCatR (fun _ _ h => h) (zS_succ _ _) ((by rw [show (⟨[48].toArray⟩ : ByteArray).size = 1 from rfl, zS_size]; omega)) rfl)
      (lbase (qSubC (fun _ _ h => h) (by omega) (by omega) (by omega) rfl)
      lnil)))⟩)
      (lbase (qTestN (op := .gtr) (fun _ _ h => h) (tst_run (decide_eq_false (by omega)) (by simp)))
      lnil)
      (fun q hq w v h => by
        rcases List.mem_singleton.1 hq with rfl
        exact h)) (lbase (qIndexSC 0 rfl Tryz.underlying9 (fun _ _ h => h) (txtS_pos _) rfl)
      (lbase (qTestN (op := .eql) (fun _ _ h => h) (tst_run (tst45n (txtS_nneg h0)) (by simp)))
      (lbase (sDParse (fun _ _ h => h) h1 h2 rfl)
      (lbase (sDParse (fun _ _ h => h) h3 h4 rfl)
      (lbase (sSameInt nN nN rfl rfl)
      (lbase (tFrom iI rfl (by omega) rfl)
      (lbase (tSame dD nN (by omega) rfl rfl)
      (lbase (sText nI (by omega) rfl)
      (lbase (qEqT (fun _ _ h => h) (fun _ _ h => h) (by simp))
      (lbase (sWakes3)
      lnil)))))))))))))))))
    (ins_ok [.fact 0 (.agg [.b, .s]), .fact 1 (.one (.i))] ⟨fun _ _ h => RawI.is h, fun _ _ h => IsJ h, trivial⟩) (fun _ _ _ h => h)

def b_path_n (a0 : Bool) (xs0 : List Nat) (z0 : Int) (m0 : Int) (m : Nat) : List (World → Value → Prop) := [fun w v => RawI w v a0 xs0, fun _ v => v = .int .i64 m0, fun w v => RawI w v a0 (xs0.take 20), fun w v => IntV w v z0 20, fun _ v => v = .string (txtS z0), fun _ v => v = .int .u8 (((txtS z0).data.toList.getD 0 0).toNat : Int), fun _ v => v = .string (digS z0), fun _ v => v = .int .i64 (m : Int), fun _ v => v = .string (zS m (digS z0)), fun _ v => v = .int .u8 (((txtS z0).data.toList.getD 0 0).toNat : Int), fun _ v => v = .string ((⟨[45].toArray⟩ : ByteArray) ++ zS m (digS z0)), fun w v => NorV w v z0 50, fun w v => NorV w v z0 50, fun w v => DecI w v z0 20, fun _ v => v = .string (txtS z0)]
def l_path_n (z0 : Int) (m : Nat) (j : Nat) : List (World → Value → Prop) := [fun _ v => v = .string (zS j (digS z0)), fun _ v => v = .int .i64 ((m - j : Nat) : Int), fun _ v => v = .string (zS (j + 1) (digS z0)), fun _ v => v = .int .i64 ((m - (j + 1) : Nat) : Int)]
def d_path_n : LoopD := ⟨[0, 1, 2, 4, 5, 12, 13, 14, 15, 16, 17, 18, 19, 20, 21, 22, 23, 24, 25], [(.slot 6, .t), (.slot 7, .i)], [(.one 0, 15), (.one 1, 16)], [.from 6, .from 7], 15, [(15, 8)]⟩
def r_path_n_0 : List Step := [.base ⟨0, [.fact 16, .lit (.ci .i64 0)], [⟨.one (.lit (.cb true)), []⟩], .quiet (mBin .gtr)⟩,
      .base ⟨0, [.lit (.cs [48]), .fact 15], [⟨.one (.t), [(0, 0, 17)]⟩], .quiet (mBin .add)⟩,
      .base ⟨0, [.fact 16, .lit (.ci .i64 1)], [⟨.one (.i), [(0, 0, 18)]⟩], .quiet (mBin .sub)⟩]
def o_path_n : List Step := [.base ⟨0, [.fact 16, .lit (.ci .i64 0)], [⟨.one (.lit (.cb false)), []⟩], .quiet (mBin .gtr)⟩]
def ss_path_n : List Step := [.base ⟨11, [.fact 0, .lit (.ci .i64 20)], [⟨.agg [.b, .s], [(0, 0, 2), (0, 0, 3)]⟩], false⟩,
      .base ⟨12, [.fact 3], [⟨.one (.t), [(0, 0, 4)]⟩], false⟩,
      .base ⟨0, [.fact 4, .lit (.cs [])], [⟨.one (.lit (.cb false)), []⟩], .quiet (mBin .eql)⟩,
      .base ⟨0, [.fact 4, .lit (.ci .i64 0)], [⟨.one (.nk), [(0, 0, 5)]⟩], .quiet (mIndex 9)⟩,
      .base ⟨0, [.fact 5, .lit (.ci .u8 45)], [⟨.one (.lit (.cb true)), []⟩], .quiet (mBin .eql)⟩,
      .base ⟨0, [.fact 4, .lit (.ci .i64 1)], [⟨.one (.t), [(0, 0, 6)]⟩], .quiet (mFrom 9)⟩,
      .base ⟨20, [.fact 1, .lit (.ci .i64 30)], [⟨.one (.i), [(0, 0, 7)]⟩], false⟩,
      .loop d_path_n [(r_path_n_0, [.from 17, .from 18])] o_path_n,
      .base ⟨0, [.fact 4, .lit (.ci .i64 0)], [⟨.one (.nk), [(0, 0, 9)]⟩], .quiet (mIndex 9)⟩,
      .base ⟨0, [.fact 9, .lit (.ci .u8 45)], [⟨.one (.lit (.cb true)), []⟩], .quiet (mBin .eql)⟩,
      .base ⟨0, [.lit (.cs [45]), .fact 8], [⟨.one (.t), [(0, 0, 10)]⟩], .quiet (mBin .add)⟩,
      .base ⟨16, [.fact 10], [⟨.agg [.b, .s], [(0, 0, 11)]⟩, ⟨.one (.lit (.ci .i64 0)), []⟩], true⟩,
      .base ⟨16, [.fact 4], [⟨.agg [.b, .s], [(0, 0, 12)]⟩, ⟨.one (.lit (.ci .i64 0)), []⟩], true⟩,
      .base ⟨21, [.fact 11, .fact 12], [⟨.one (.lit (.cb true)), []⟩], false⟩,
      .base ⟨14, [.fact 3], [⟨.agg [.s, .b], [(0, 0, 13)]⟩], false⟩,
      .base ⟨19, [.fact 13, .fact 11], [⟨.one (.lit (.cb true)), []⟩], false⟩,
      .base ⟨12, [.fact 11], [⟨.one (.t), [(0, 0, 14)]⟩], false⟩,
      .base ⟨0, [.fact 14, .fact 4], [⟨.one (.lit (.cb true)), []⟩], .quiet (mBin .eql)⟩,
      .base ⟨15, [], [⟨.one (.lit (.cb true)), []⟩], false⟩]
def ins_path_n : List Out := [⟨.agg [.b, .s], [(0, 0, 0)]⟩, ⟨.one (.i), [(0, 0, 1)]⟩]
set_option maxRecDepth 100000 in
theorem path_n {a0 : Bool} {xs0 : List Nat} {z0 : Int} {m0 : Int} {m : Nat} (hz0 : sg a0 (Proofs.YtjakllpnbeagjaaGreatDoor.val 4294967296 (xs0.take 20)) = z0) (hw : wi m0 30 = m) (hm : m < 30) (hbs : (digS z0).size ≤ 300) (h1 : isNum ((⟨[45].toArray⟩ : ByteArray) ++ zS m (digS z0)).data.toList = true) (h2 : sNum ((⟨[45].toArray⟩ : ByteArray) ++ zS m (digS z0)).data.toList = z0) (h3 : isNum (txtS z0).data.toList = true) (h4 : sNum (txtS z0).data.toList = z0) (h0 : z0 < 0) : SiteOk (ph (b_path_n a0 xs0 z0 m0 m)) Tryz.prog ⟨5, [.fact 0, .fact 1], [⟨.one (.lit (.cb true)), []⟩], false⟩ :=
  fn_okL ins_path_n [⟨.one (.lit (.cb true)), []⟩] ss_path_n Tryz.func5 (by kernel_rfl)
    (lbase (sKIntR 20 rfl (fun _ _ h => h) rfl rfl hz0)
      (lbase (sText iI (by omega) rfl)
      (lbase (qEqTL (fun _ _ h => h) (txtS_ne _))
      (lbase (qIndexSC 0 rfl Tryz.underlying9 (fun _ _ h => h) (txtS_pos _) rfl)
      (lbase (qTestN (op := .eql) (fun _ _ h => h) (tst_run (tst45 (txtS_neg h0)) (by simp)))
      (lbase (qFromSC 1 rfl Tryz.underlying9 (fun _ _ h => h) (txtS_pos _) (txtS_tail h0) rfl)
      (lbase (sWithinE (n := 30) (by omega) (fun _ _ h => h) (by omega) (by omega) hw rfl)
      (lloop (counted m (fun j => ph (b_path_n a0 xs0 z0 m0 m ++ l_path_n z0 m j)) (fun _ => 0) (fun j p hp => ph_app (show p < (b_path_n a0 xs0 z0 m0 m).length from hp)) ⟨fun _ _ h => by
        show _ = Value.string (zS 0 _)
        rw [zS_zero]; exact h, fun _ _ h => h, trivial⟩ (fun j hj => ⟨(r_path_n_0, [.from 17, .from 18]), rfl, ⟨fun _ _ h => h, fun _ _ h => h, trivial⟩, (lbase (qTestN (op := .gtr) (fun _ _ h => h) (tst_run (decide_eq_true (by omega)) (by simp)))
      (lbase (qCatR (fun _ _ h => h) (zS_succ _ _) ((by rw [show (⟨[48].toArray⟩ : ByteArray).size = 1 from rfl, zS_size]; omega)) rfl)
      (lbase (qSubC (fun _ _ h => h) (by omega) (by omega) (by omega) rfl)
      lnil)))⟩)
      (lbase (qTestN (op := .gtr) (fun _ _ h => h) (tst_run (decide_eq_false (by omega)) (by simp)))
      lnil)
      (fun q hq w v h => by
        rcases List.mem_singleton.1 hq with rfl
        exact h)) (lbase (qIndexSC 0 rfl Tryz.underlying9 (fun _ _ h => h) (txtS_pos _) rfl)
      (lbase (qTestN (op := .eql) (fun _ _ h => h) (tst_run (tst45 (txtS_neg h0)) (by simp)))
      (lbase (qCatR (fun _ _ h => h) (rfl) ((by rw [show (⟨[45].toArray⟩ : ByteArray).size = 1 from rfl, zS_size]; omega)) rfl)
      (lbase (sDParse (fun _ _ h => h) h1 h2 rfl)
      (lbase (sDParse (fun _ _ h => h) h3 h4 rfl)
      (lbase (sSameInt nN nN rfl rfl)
      (lbase (tFrom iI rfl (by omega) rfl)
      (lbase (tSame dD nN (by omega) rfl rfl)
      (lbase (sText nI (by omega) rfl)
      (lbase (qEqT (fun _ _ h => h) (fun _ _ h => h) (by simp))
      (lbase (sWakes3)
      lnil)))))))))))))))))))
    (ins_ok [.fact 0 (.agg [.b, .s]), .fact 1 (.one (.i))] ⟨fun _ _ h => RawI.is h, fun _ _ h => IsJ h, trivial⟩) (fun _ _ _ h => h)
theorem walk {a0 : Bool} {s0 : Value} {xs0 : List Nat} {w : World} (hx0 : Sl w .u32 s0 xs0) (ax0 : All 4294967296 xs0) (n : Int) (_ : -9223372036854775808 ≤ n) (_ : n ≤ 9223372036854775807) : Calls Tryz.prog 5 #[.agg #[.bool a0, s0], .int .i64 n] w (Bool_ w true) := by
  obtain ⟨z0, hz0⟩ : ∃ z, sg a0 (Proofs.YtjakllpnbeagjaaGreatDoor.val 4294967296 (xs0.take 20)) = z := ⟨_, rfl⟩
  have hb : z0.natAbs < 10 ^ 201 := by
    rw [← hz0, sg_abs]
    have h1 : Bd (Proofs.YtjakllpnbeagjaaGreatDoor.val 4294967296 (xs0.take 20)) 20 := Bd.row xs0 ax0 20
    exact Nat.lt_of_lt_of_le (bd_pow h1) (Nat.pow_le_pow_right (by omega) (by omega))
  have hm := wi_lt n (n := 30) (by omega)
  obtain ⟨h3, h4⟩ := txtS_num hb (by omega) (by omega)
  by_cases h0 : z0 < 0
  · obtain ⟨h1, h2⟩ := zeros_neg (j := wi n 30) h0 hb (by omega) (by omega)
    exact law_true (path_n hz0 rfl hm (Nat.le_trans (digS_size hb (by omega)) (by omega)) h1 h2 h3 h4 h0) (vs := [.agg #[.bool a0, s0], .int .i64 n]) ⟨arg_kp rfl (fun _ _ _ g h => RawI.kp h g) ⟨_, rfl, hx0, ax0⟩, arg_kp rfl (fun _ _ _ _ h => h) rfl, trivial⟩
  · obtain ⟨h1, h2⟩ := zeros_nneg (j := wi n 30) h0 hb (by omega) (by omega)
    exact law_true (path_p hz0 rfl hm (Nat.le_trans (txtS_size hb (by omega)) (by omega)) h1 h2 h3 h4 h0) (vs := [.agg #[.bool a0, s0], .int .i64 n]) ⟨arg_kp rfl (fun _ _ _ g h => RawI.kp h g) ⟨_, rfl, hx0, ax0⟩, arg_kp rfl (fun _ _ _ _ h => h) rfl, trivial⟩
set_option maxRecDepth 100000 in
theorem lifted (os : Os) (started : os.Started) (H : Type) (enc : TypeId × Value → H) :
    ReturnsInHanded {} Tryz.checked os 5 .any (fun w args => (Rows.digitsBackSpec.pre enc Tryz.prog Tryz.f5 [] false w args ∧ laidMetH Tryz.prog Rows.digitsBackRow.laid w) ∧ sizedMet enc Tryz.prog Tryz.f5 (OpenSpec.ofChange Rows.digitsBackSpec) false w args) (Rows.digitsBackSpec.post enc Tryz.prog Tryz.f5 false true false false) := by
  refine returnsInHanded_of_change_and (C := Tryz.checked) (X := fun w _ => laidMetH Tryz.prog Rows.digitsBackRow.laid w) (fun _ _ _ hh h => h.of_heap hh) Tryz.own started (by kernel_rfl) Tryz.func5
    (ChangeSpec.witness_at (enc := enc) (C := Tryz.checked) (os := os) (X := fun w _ => laidMetH Tryz.prog Rows.digitsBackRow.laid w) false (World.laidAll Tryz.prog os Rows.digitsBackRow.laid) #[.agg #[.bool false, .slice none 0 0], .int .i64 0] 8 (World.laidAll_os _ _ _) (by kernel_rfl) (by kernel_rfl) (by kernel_rfl) (by kernel_rfl) (by kernel_rfl)
      (by rw [MakeChecks.laidMetH_plain _ _ _ (by kernel_rfl)]; exact laidMet_laidAll _ (by kernel_rfl) (by kernel_rfl))) ?_
  intro W base args ds gs before hval0 hW _ _ _ _
  have hval : ∀ (j : Nat) t v, Tryz.f5.params[j]? = some t → args[j]? = some v → Value.okWide Tryz.prog W .any base t v := hval0
  obtain ⟨p, q, hA0, hV, rfl, _, _⟩ := id hW
  have hA : DataW.TrodAll enc Tryz.prog W 0 (fun _ => true) true Tryz.f5.params.toList args.toList ds p := hA0
  rw [Tryz.params5] at hA hval
  obtain ⟨v0, vs0, d0, ds0, p0, q0, hargs, rfl, rfl, h0, r0⟩ := trodAll_cons hA
  obtain ⟨v1, vs1, d1, ds1, p1, q1, rfl, rfl, rfl, h1, r1⟩ := trodAll_cons r0
  obtain ⟨rfl, rfl, rfl⟩ := trodAll_nil r1
  obtain rfl : args = #[v0, v1] := by cases args; simp_all
  obtain ⟨b0, w0, xs0, rfl, s0, a0⟩ := int_of_trod h0 (hval 0 24 v0 rfl rfl)
  obtain ⟨n1, rfl, rfl, rfl, f1⟩ := open_int Tryz.underlying3 (hval 1 3 v1 rfl rfl) h1
  refine (walk s0 a0 n1 (wf_lo f1) (wf_hi f1)).mono fun e W' ⟨he, hg⟩ => ?_
  subst he
  refine ⟨_, rfl, law_post Tryz.laidOut rfl (by kernel_rfl) Tryz.underlying4 ?_ ?_ hW hg⟩
  · rw [Tryz.params5]; decide +kernel
  · rw [Tryz.params5]
    intro ds h
    match ds, h with
    | [_, _], _ => rfl

theorem row_holds : Rows.DigitsBackSaid :=
  OpenClaim.holds_of_wide 5 Tryz.f5 rfl rfl rfl rfl rfl rfl rfl ⟨rfl, rfl, rfl, rfl, rfl⟩ rfl rfl rfl rfl rfl (by kernel_rfl) Tryz.func5 (by kernel_rfl)
    (of_decide_eq_true (by kernel_rfl)) (by unfold Func.isWrapper; first | (rw [if_pos (by decide +kernel)]; kernel_rfl) | (rw [if_neg (by decide +kernel)]; exact ⟨rfl, rfl⟩))
    (fun os started H enc _ => lifted os started H enc)
theorem holds : Rows.DigitsBackCardSaid :=
  Claim7.holds_tied_plain_at .later [] Rows.digitsBackCard.laidKinds true Rows.digitsBackCard.stood.harness true
    row_holds (fun _ h => by cases h) (by kernel_rfl) (fun _ h => by cases h) digitsBack_row_tie rfl ⟨rfl, rfl⟩ (by kernel_rfl) rfl
    (fun f fn hf hfn => by
      obtain rfl : f = 5 := Option.some.inj ((show Tryz.prog.funcNamed "orrery/orrerylaw03.DigitsBack" = some 5 by kernel_rfl).symm.trans hf) |>.symm
      obtain rfl : fn = Tryz.f5 := (Option.some.inj (Tryz.func5.symm.trans hfn)).symm
      exact ⟨by kernel_rfl, fun j t ht => by rw [Tryz.params5] at ht; exact stand_no t (by rcases j with _ | _ | _ | _ | _ | j <;> simp at ht <;> simp [← ht])⟩)
    (by kernel_rfl)

end Go.Proofs.YtjakllpnbeagjaaGreatDoor.digitsback
