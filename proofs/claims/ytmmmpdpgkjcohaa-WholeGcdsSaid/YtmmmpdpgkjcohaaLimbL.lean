/- Package limb: guess: a digit of the quotient, or one more. -/
import Derived.Test.YtmmmpdpgkjcohaaLimbK
import Derived.Test.YtmmmpdpgkjcohaaGuess
namespace Go.Proofs.Ytmmmpdpgkjcohaa
open Go.RowKit

/-- What guess hands back. -/
def Guessed (w : World) (P D : Nat) (en : Ending) (w' : World) : Prop :=
  ∃ q : Nat, en = .returned (.int .u32 q) ∧ P / D ≤ q ∧ q ≤ P / D + 1 ∧ q < 4294967296 ∧ ∃ n, w' = w.drewN n

set_option maxHeartbeats 2000000 in
theorem guess_cells (pb po capp bb bo capb m b1 b2 p0 p1 p2 bl pl E P D : Nat) (w : World) (hm : m ≤ 8796093022208)
   (h1 : w.cell? ⟨pb, po + (m + 2), none⟩ = some (.int .u32 p0)) (h2 : w.cell? ⟨pb, po + (m + 1), none⟩ = some (.int .u32 p1)) (h3 : w.cell? ⟨pb, po + m, none⟩ = some (.int .u32 p2))
   (h4 : w.cell? ⟨bb, bo + (m + 1), none⟩ = some (.int .u32 b1)) (h5 : w.cell? ⟨bb, bo + m, none⟩ = some (.int .u32 b2))
   (T : Tops 4294967296 E b1 b2 bl p0 p1 p2 pl P D) :
    Calls Try.prog 96 #[.slice (some ⟨pb, po, none⟩) (m + 3) capp, .slice (some ⟨bb, bo, none⟩) (m + 2) capb] w (Guessed w P D) := by
  have l0 := T.hp0
  have l1 := T.hp1
  have l2 := T.hp2
  have l3 := T.hb1B
  have l4 := T.hb2
  have l5 := T.hb1
  have TT := Lib.hid T
  clear T
  have so := shl_or p0 p1 l0 l1
  have i1 : (m : Int) + 2 < (m : Int) + 3 := by omega
  have i2 : (m : Int) + 1 < (m : Int) + 3 := by omega
  have i3 : (m : Int) + 1 < (m : Int) + 2 := by omega
  have i4 : (0 : Int) ≤ (m : Int) + 1 := by omega
  have i5 : (m : Int) < (m : Int) + 2 := by omega
  have i6 : (m : Int) < (m : Int) + 3 := by omega
  go_enter Try.func96, Try.ntmps96
  go_wp2_with fail
  go_quiet (fail)
  go_wp2_with fail
  go_quiet (fail)
  go_wp2_with fail
  have ed : ((p0 : Int) * 4294967296 + (p1 : Int)) / (b1 : Int) = (((p0 * 4294967296 + p1) / b1 : Nat) : Int) := by
    rw [show ((p0 : Int) * 4294967296 + p1) = ((p0 * 4294967296 + p1 : Nat) : Int) by omega, ← Int.natCast_ediv]
  have em : ((p0 : Int) * 4294967296 + (p1 : Int)) % (b1 : Int) = (((p0 * 4294967296 + p1) % b1 : Nat) : Int) := by
    rw [show ((p0 : Int) * 4294967296 + p1) = ((p0 * 4294967296 + p1 : Nat) : Int) by omega, ← Int.natCast_emod]
  have hdm := Nat.div_add_mod (p0 * 4294967296 + p1) b1
  have hml := Nat.mod_lt (p0 * 4294967296 + p1) l5
  have hst := TT.out.start
  rw [ed, em]
  clear ed em so
  generalize (p0 * 4294967296 + p1) / b1 = q0 at *
  generalize (p0 * 4294967296 + p1) % b1 = r0 at *
  have Hdm := Lib.hid hdm
  have Hst := Lib.hid hst
  clear hdm hst
  go_loopw [7, 8] (fun qv rv wr => ∃ q rest n : Nat, qv = .int .u64 q ∧ rv = .int .u64 rest ∧ wr = w.drewN n ∧ Hid (q * b1 + rest = p0 * 4294967296 + p1) ∧ Hid (P / D ≤ q) ∧ q ≤ 4294967297 ∧ Hid (4294967296 ≤ rest → q ≤ 4294967296) ∧ rest < 8589934592) (fun _ rv _ => 8589934592 - (intOf rv).toNat)
  case atStart =>
    refine ⟨q0, r0, _, rfl, rfl, by rw [World.drewN_drewN], ?_, Hst.out.1, Hst.out.2, ?_, by omega⟩
    · have := Hdm.out; show q0 * b1 + r0 = _; rw [Nat.mul_comm]; exact this
    · intro h; omega
  case round =>
    obtain ⟨q, rest, dn, rfl, rfl, rfl, inv, lo, hi, cap, rl⟩ := hrel
    clear Hdm Hst
    by_cases hA : 4294967296 ≤ rest
    · have t1 : ((rest : Int) / 4294967296 == 0) = false := by rw [beq_eq_false_iff_ne]; omega
      have hle := Lib.hid (TT.out.grown inv.out (cap.out hA) hA)
      have hlt := TT.out.qlt
      have hq : q < 4294967296 := Nat.lt_of_le_of_lt hle.out hlt
      clear hlt
      go_wp2_with fail
      go_quiet (fail)
      go_wp2_with fail
      go_ret
      exact ⟨q, ret_int (by omega), lo.out, Nat.le_trans hle.out (Nat.le_succ _), hq, _, rfl⟩
    · have t1 : ((rest : Int) / 4294967296 == 0) = true := by rw [beq_iff_eq]; omega
      by_cases hB : 4294967296 ≤ q
      · have t2 : ((q : Int) / 4294967296 != 0) = true := by rw [bne_iff_ne]; omega
        have hl := Lib.hid (TT.out.less (p2 := p2) inv.out (.inl hB))
        have hq1 : 1 ≤ q := by omega
        go_wp2_with fail
        go_quiet (fail)
        go_wp2_with fail
        go_roundw
        case rel =>
          refine ⟨q - 1, rest + b1, _, int_eq (by omega), int_eq (by omega), rfl, ?_, ?_, by omega, ?_, by omega⟩
          · have := inv.out
            obtain ⟨q', rfl⟩ : ∃ q', q = q' + 1 := ⟨q - 1, by omega⟩
            show (q' + 1 - 1) * b1 + (rest + b1) = _
            rw [Nat.add_mul, Nat.one_mul] at this
            rw [Nat.add_sub_cancel]; omega
          · exact Nat.le_sub_of_add_le hl.out
          · intro _; omega
        case measure => simp [intOf]; omega
      · have t2 : ((q : Int) / 4294967296 != 0) = false := by rw [bne_eq_false_iff_eq]; omega
        have m1 := mul_le32i (show q < 4294967296 by omega) l4
        have m2 := mul_ge32i q b2
        have so := shl_or rest p2 (by omega) l2
        by_cases hC : rest * 4294967296 + p2 < q * b2
        · have t3 : decide ((rest : Int) * 4294967296 + (p2 : Int) < (q : Int) * (b2 : Int)) = true := by
            rw [decide_eq_true_iff, ← Int.natCast_mul]; omega
          have hl := Lib.hid (TT.out.less inv.out (.inr hC))
          have hq1 : 1 ≤ q := Nat.pos_of_ne_zero (fun h => by subst h; simp at hC)
          go_wp2_with fail
          go_quiet (fail)
          go_wp2_with fail
          go_roundw
          case rel =>
            refine ⟨q - 1, rest + b1, _, int_eq (by omega), int_eq (by omega), rfl, ?_, ?_, by omega, ?_, by omega⟩
            · have := inv.out
              obtain ⟨q', rfl⟩ : ∃ q', q = q' + 1 := ⟨q - 1, by omega⟩
              show (q' + 1 - 1) * b1 + (rest + b1) = _
              rw [Nat.add_mul, Nat.one_mul] at this
              rw [Nat.add_sub_cancel]; omega
            · exact Nat.le_sub_of_add_le hl.out
            · intro _; omega
          case measure => simp [intOf]; omega
        · have t3 : decide ((rest : Int) * 4294967296 + (p2 : Int) < (q : Int) * (b2 : Int)) = false := by
            rw [decide_eq_false_iff_not, ← Int.natCast_mul]; omega
          go_wp2_with fail
          go_quiet (fail)
          go_wp2_with fail
          go_ret
          refine ⟨q, ret_int (by omega), lo.out, TT.out.done inv.out (by omega) (by omega), by omega, _, rfl⟩

end Go.Proofs.Ytmmmpdpgkjcohaa
