/- Package limb: shiftUp, shiftDown: rows moved by less than a limb, in place. -/
import Derived.Test.YtmmmpdpgkjcohaaLimbF
namespace Go.Proofs.Ytmmmpdpgkjcohaa
open Go.RowKit

/-- What a function that writes a piece of a row leaves: nothing is handed back; n limbs from off on are Z. -/
def Wrote (w : World) (g N off n : Nat) (c : Nat → Value) (P : List Nat → Prop) (en : Ending) (w' : World) : Prop :=
  ∃ Z, Z.length = n ∧ All 4294967296 Z ∧ P Z ∧ en = .returned (.tuple #[]) ∧ RowF w' 65 g N (lay c off n .u32 Z) ∧ w.grownBy w' (some g) ∧ w'.heap.size = w.heap.size

theorem lay_full {w : World} {e : TypeId} {g N off n : Nat} {c : Nat → Value} {Z : List Nat} {v : Value} (h : RowF w e g N (lay c off n .u32 Z)) (hv : v = .int .u32 (nth Z n)) :
    RowF (w.setCell ⟨g, off + n, none⟩ v) e g N (lay c off (n + 1) .u32 Z) := by
  rw [← lay_step c off n .u32 Z hv]
  exact h.set _ _

set_option maxHeartbeats 1000000 in
theorem shiftUp_any (g off N cap n m : Nat) (vy : Value) (c : Nat → Value) (ys : List Nat) (w : World) (hr : RowF w 65 g N c) (hN : off + m + 1 ≤ N) (hn : n < 32)
    (hc : ∀ j, j < m + 1 → ∃ x : Nat, c (off + j) = .int .u32 x) (hy : Sl w .u32 vy ys) (hne : ys ≠ [] → vy.ownBlock ≠ some g) (hm : ys.length = m) (ay : All 4294967296 ys) :
    Calls Try.prog 95 #[.slice (some ⟨g, off, none⟩) (m + 1) cap, vy, .int .i64 n] w (Wrote w g N off (m + 1) c (fun Z => val 4294967296 Z = val 4294967296 ys * 2 ^ n)) := by
  obtain ⟨p, capy, rfl, h1, h2, h3⟩ := hy
  have hp := pow_le31 hn
  have hp0 : 0 < 2 ^ n := Nat.pow_pos (by omega)
  have ynth := nth_lt (by omega) ay
  obtain ⟨s, hs⟩ : ∃ s : Nat → Nat, s = fun j => nth ys j * 2 ^ n := ⟨_, rfl⟩
  have clt : ∀ k, chC 4294967296 s 0 k < 2 ^ n := fun k => by
    rw [hs]
    exact chC_lt (fun j => mul_room (ynth j)) hp0 k
  obtain ⟨Z, hZ⟩ : ∃ Z, pre (chD 4294967296 s 0) (m + 1) = Z := ⟨_, rfl⟩
  have hZn : ∀ j, j < m + 1 → nth Z j = chD 4294967296 s 0 j := fun j hj => by rw [← hZ]; exact pre_nth _ (by omega)
  have fin : Z.length = m + 1 ∧ All 4294967296 Z ∧ val 4294967296 Z = val 4294967296 ys * 2 ^ n := by
    refine ⟨by rw [← hZ, pre_len], by rw [← hZ]; exact pre_all fun j _ => chD_lt (by omega) _ _ _, ?_⟩
    have e := ch_val 4294967296 s 0 (m + 1)
    have e0 : chC 4294967296 s 0 (m + 1) = 0 := by
      have := clt m
      simp only [chC]
      rw [show s m = 0 by rw [hs]; show nth ys m * 2 ^ n = 0; rw [nth_out ys (by omega)]; simp]
      omega
    rw [e0, hZ, hs, val_mul, val_pre_more _ ys (by omega)] at e
    omega
  rw [hm] at h1 ⊢
  have Hm := Lib.hid hm
  have HZn := Lib.hid hZn
  have Fin := Lib.hid fin
  have H3 := Lib.hid h3
  have Clt := Lib.hid clt
  have Hs := Lib.hid hs
  have Hne := Lib.hid hne
  have Hc := Lib.hid hc
  have Ynth := Lib.hid ynth
  clear hm hZ hZn fin h3 clt hs hne hc ynth ay hp hp0
  go_enter Try.func95, Try.ntmps95
  go_wp2_with fail
  go_loopw [6, 11] (fun cv i wr => ∃ k : Nat, k ≤ m ∧ i = .int .i64 k ∧ cv = .int .u64 (chC 4294967296 s 0 k) ∧ RowF wr 65 g N (lay c off k .u32 Z) ∧ w.grownBy wr (some g) ∧ wr.heap.size = w.heap.size) (fun _ i _ => (m - (intOf i).toNat))
  case atStart => exact ⟨0, by omega, rfl, rfl, by rw [lay_zero]; exact hr, grown_refl _ _, rfl⟩
  case round =>
    obtain ⟨k, hk, rfl, rfl, rr, gr, sr⟩ := hrel
    have Sr := Lib.hid sr
    clear sr
    have f1 : wr.frozen? ⟨g, off + k, none⟩ = false := rr.frozen _
    obtain ⟨x0, hx0⟩ := Hc.out k (by omega)
    have c1 : wr.cell? ⟨g, off + k, none⟩ = some (.int .u32 x0) := by
      rw [rr.cell (by omega), lay_out _ _ _ (by omega), hx0]
    clear hx0
    have HC := Lib.hid (show chC 4294967296 s 0 (k + 1) = (chC 4294967296 s 0 k + s k) / 4294967296 from rfl)
    have HD := Lib.hid (show nth Z k = (chC 4294967296 s 0 k + s k) % 4294967296 from HZn.out k (by omega))
    have hcl := Clt.out k
    have hp := pow_le31 hn
    have hcl2 : chC 4294967296 s 0 k < 4294967296 := by omega
    by_cases hlt : k < m
    · rcases H3.out with h3 | ⟨b, boff, rfl, hbl, hy⟩
      · have := Hm.out; rw [h3] at this; simp at this; omega
      have c2 : wr.cell? ⟨b, boff + k, none⟩ = some (.int .u32 (nth ys k)) := by
        rw [World.cell?_of_block (w := w) (gr.block b hbl (by simpa [Value.ownBlock] using Hne.out (fun h => by have := Hm.out; rw [h] at this; simp at this; omega))), hy k (by rw [Hm.out]; omega)]
      clear hy
      have b2 : nth ys k < 4294967296 := Ynth.out k
      have i1 : (k : Int) < (m : Int) := by omega
      have HO := Lib.hid (or_shl (chC 4294967296 s 0 k) (nth ys k) n hcl hn b2)
      have HSk := Lib.hid (show s k = nth ys k * 2 ^ n by rw [Hs.out])
      generalize chC 4294967296 s 0 k = cr at *
      clear hcl hp
      go_wp2
      go_roundw
      case rel =>
        refine ⟨k + 1, by omega, by go_num, int_eq ?_, ?_, grown_trans gr (grown_set _ _ _ _), by simpa using Sr.out⟩
        · rw [HO.out, HC.out, HSk.out]; omega
        · refine lay_full rr (int_eq ?_)
          rw [HO.out, HD.out, HSk.out]; omega
      case measure => simp [intOf]; omega
    · obtain rfl : k = m := by omega
      have HSk := Lib.hid (show s k = 0 by rw [Hs.out]; show nth ys k * 2 ^ n = 0; rw [nth_out ys (by rw [Hm.out]; omega)]; simp)
      generalize chC 4294967296 s 0 k = cr at *
      clear hcl hp
      go_wp2
      go_end0
      refine ⟨Z, Fin.out.1, Fin.out.2.1, Fin.out.2.2, rfl, lay_full rr (int_eq ?_), grown_trans gr (grown_set _ _ _ _), by simpa using Sr.out⟩
      rw [HD.out, HSk.out]
      omega

end Go.Proofs.Ytmmmpdpgkjcohaa
