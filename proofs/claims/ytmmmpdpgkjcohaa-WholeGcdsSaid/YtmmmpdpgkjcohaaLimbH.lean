/- Package limb: shiftDown; Shl, Shr, Bits. -/
import Derived.Test.YtmmmpdpgkjcohaaLimbG
namespace Go.Proofs.Ytmmmpdpgkjcohaa
open Go.RowKit

theorem lay_down {w : World} {e : TypeId} {g N off n k m : Nat} {c : Nat → Value} {Z : List Nat} {v : Value} (h : RowF w e g N (lay c (off + (k + 1)) n .u32 (Z.drop (k + 1)))) (hm : n + k + 1 = m) (hv : v = .int .u32 (nth Z k)) :
    RowF (w.setCell ⟨g, off + k, none⟩ v) e g N (lay c (off + k) (m - k) .u32 (Z.drop k)) := by
  refine (h.set (off + k) v).congr fun j _ => ?_
  subst hv
  by_cases h1 : j = off + k
  · subst h1
    rw [upd_at]
    have := lay_in c (off := off + k) (n := m - k) (j := 0) .u32 (Z.drop k) (by omega)
    rw [Nat.add_zero, nth_drop, Nat.add_zero] at this
    exact this.symm
  · rw [upd_ne _ _ h1]
    by_cases h2 : off + (k + 1) ≤ j ∧ j < off + (k + 1) + n
    · obtain ⟨i, rfl⟩ : ∃ i, j = off + (k + 1) + i := ⟨j - (off + (k + 1)), by omega⟩
      rw [lay_in _ _ _ (by omega), nth_drop]
      have := lay_in c (off := off + k) (n := m - k) (j := 1 + i) .u32 (Z.drop k) (by omega)
      rw [nth_drop] at this
      rw [show off + (k + 1) + i = off + k + (1 + i) by omega, this]
      congr 3
      omega
    · rw [lay_out _ _ _ (by omega), lay_out _ _ _ (by omega)]

set_option maxHeartbeats 1000000 in
theorem shiftDown_any (g off N cap n m : Nat) (vy : Value) (c : Nat → Value) (ys : List Nat) (w : World) (hr : RowF w 65 g N c) (hN : off + m ≤ N) (hn : n < 32)
    (hc : ∀ j, j < m → ∃ x : Nat, c (off + j) = .int .u32 x) (hy : Sl w .u32 vy ys) (hne : ys ≠ [] → vy.ownBlock ≠ some g) (hm : ys.length = m) (ay : All 4294967296 ys) :
    Calls Try.prog 99 #[.slice (some ⟨g, off, none⟩) m cap, vy, .int .i64 n] w (Wrote w g N off m c (fun Z => val 4294967296 Z = val 4294967296 ys / 2 ^ n)) := by
  obtain ⟨p, capy, rfl, h1, h2, h3⟩ := hy
  have hp := pow_le31 hn
  have hp0 : 0 < 2 ^ n := Nat.pow_pos (by omega)
  have ynth := nth_lt (by omega) ay
  have hdvd : 4294967296 % 2 ^ n = 0 := by
    rw [show 4294967296 = 2 ^ n * 2 ^ (32 - n) by rw [← Nat.pow_add, show n + (32 - n) = 32 by omega]]
    exact Nat.mul_mod_right _ _
  have hdig : ∀ j, j < m → (nth ys (j + 1) * 4294967296 + nth ys j) / 2 ^ n % 4294967296 = nth (dig 4294967296 (val 4294967296 ys / 2 ^ n)) j := fun j hj => by
    rcases div_digit (by omega) hp0 hdvd ys (i := j) (by omega) with h | h
    · exact h
    · exact absurd ay h
  obtain ⟨Z, hZ⟩ : ∃ Z, pre (nth (dig 4294967296 (val 4294967296 ys / 2 ^ n))) m = Z := ⟨_, rfl⟩
  have hZn : ∀ j, j < m → nth Z j = (nth ys (j + 1) * 4294967296 + nth ys j) / 2 ^ n % 4294967296 := fun j hj => by rw [hdig j hj, ← hZ]; exact pre_nth _ hj
  have fin : Z.length = m ∧ All 4294967296 Z ∧ val 4294967296 Z = val 4294967296 ys / 2 ^ n := by
    refine ⟨by rw [← hZ, pre_len], by rw [← hZ]; exact pre_all fun j _ => nth_lt (by omega) (dig_all (by omega) _) j, ?_⟩
    rw [← hZ, val_pre_more, val_dig (by omega)]
    refine dig_len_le (by omega) m _ ?_
    have := val_lt ay
    rw [hm] at this
    exact Nat.lt_of_le_of_lt (Nat.div_le_self _ _) this
  have h63 : m ≤ 9223372036854775807 := by omega
  rw [hm] at h1 ⊢
  have Hm := Lib.hid hm
  have HZn := Lib.hid hZn
  have Fin := Lib.hid fin
  have H3 := Lib.hid h3
  have Hne := Lib.hid hne
  have Hc := Lib.hid hc
  have Ynth := Lib.hid ynth
  clear hm hZ hZn fin h3 hne hc ynth ay hp hp0 hdig hdvd
  go_enter Try.func99, Try.ntmps99
  go_wp2_with fail
  go_loopw [6, 7] (fun cv i wr => ∃ (k av : Nat) (q : Int), k ≤ m ∧ i = .int .i64 q ∧ q = (k : Int) - 1 ∧ cv = .int .u64 av ∧ Hid (av = nth ys (k + 1) * 4294967296 + nth ys k) ∧ RowF wr 65 g N (lay c (off + k) (m - k) .u32 (Z.drop k)) ∧ w.grownBy wr (some g) ∧ wr.heap.size = w.heap.size) (fun _ i _ => (intOf i + 1).toNat)
  case atStart =>
    refine ⟨m, 0, _, by omega, rfl, rfl, rfl, ?_, ?_, grown_refl _ _, rfl⟩
    · show 0 = _
      rw [nth_out ys (by rw [Hm.out]; omega), nth_out ys (by rw [Hm.out]; omega)]
    · rw [Nat.sub_self, lay_zero]; exact hr
  case round =>
    obtain ⟨k, av, q, hk, rfl, hq, rfl, hav, rr, gr, sr⟩ := hrel
    have Sr := Lib.hid sr
    clear sr
    cases k with
    | zero =>
      obtain rfl : q = -1 := by omega
      clear hq
      go_wp2
      go_end0
      refine ⟨Z, Fin.out.1, Fin.out.2.1, Fin.out.2.2, rfl, ?_, gr, Sr.out⟩
      simpa using rr
    | succ k =>
      obtain rfl : q = (k : Int) := by omega
      clear hq
      rcases H3.out with h3 | ⟨b, boff, rfl, hbl, hy⟩
      · have := Hm.out; rw [h3] at this; simp at this; omega
      have c2 : wr.cell? ⟨b, boff + k, none⟩ = some (.int .u32 (nth ys k)) := by
        rw [World.cell?_of_block (w := w) (gr.block b hbl (by simpa [Value.ownBlock] using Hne.out (fun h => by have := Hm.out; rw [h] at this; simp at this; omega))), hy k (by rw [Hm.out]; omega)]
      clear hy
      have f1 : wr.frozen? ⟨g, off + k, none⟩ = false := rr.frozen _
      obtain ⟨x0, hx0⟩ := Hc.out k (by omega)
      have c1 : wr.cell? ⟨g, off + k, none⟩ = some (.int .u32 x0) := by
        rw [rr.cell (by omega), lay_out _ _ _ (by omega), hx0]
      clear hx0
      have b2 : nth ys k < 4294967296 := Ynth.out k
      have b3 : nth ys (k + 1) < 4294967296 := Ynth.out (k + 1)
      have b4 : nth ys (k + 1 + 1) < 4294967296 := Ynth.out (k + 1 + 1)
      have b5 : av < 18446744073709551616 := by have := hav.out; omega
      have i1 : (k : Int) < (m : Int) := by omega
      have HD := Lib.hid (show nth Z k = (nth ys (k + 1) * 4294967296 + nth ys k) / 2 ^ n % 4294967296 from HZn.out k (by omega))
      have HO := Lib.hid (or_up av (nth ys k) b2)
      have HA : Hid (av % 4294967296 = nth ys (k + 1)) := by show av % 4294967296 = _; have := hav.out; omega
      clear b4 b5
      go_wp2
      go_roundw
      case rel =>
        refine ⟨k, (av % 4294967296) * 4294967296 + nth ys k, _, by omega, rfl, rfl, int_eq HO.out, ?_, ?_, grown_trans gr (grown_set _ _ _ _), by simpa using Sr.out⟩
        · show _ = _
          rw [HA.out]
        · refine lay_down rr (by omega) (int_eq ?_)
          rw [HO.out, HD.out, HA.out, shr_cast]
          generalize (nth ys (k + 1) * 4294967296 + nth ys k) / 2 ^ n = z
          omega
      case measure => simp [intOf]

theorem Sl.drop {w : World} {k : IntKind} {b off m cap : Nat} {xs : List Nat} (h : Sl w k (.slice (some ⟨b, off, none⟩) m cap) xs) (n : Nat) (hn : n < xs.length) : Sl w k (.slice (some ⟨b, off + n, none⟩) (m - n) (cap - n)) (xs.drop n) := by
  obtain ⟨p', cap', e, h1, h2, h3⟩ := h
  simp only [Value.slice.injEq] at e
  obtain ⟨rfl, rfl, rfl⟩ := e
  have hl : (xs.drop n).length = xs.length - n := List.length_drop ..
  refine ⟨_, cap - n, by rw [hl], by omega, by omega, ?_⟩
  rcases h3 with rfl | ⟨b', off', e, h4, h5⟩
  · simp at hn
  · simp only [Option.some.injEq, Addr.mk.injEq, and_true] at e
    obtain ⟨rfl, rfl⟩ := e
    refine .inr ⟨b, off + n, rfl, h4, fun j hj => ?_⟩
    rw [hl] at hj
    rw [nth_drop, Nat.add_assoc]
    exact h5 (n + j) (by omega)

theorem Bits_any {v : Value} {xs : List Nat} {w : World} (hx : Sl w .u32 v xs) (ax : All 4294967296 xs) (hlen : xs.length ≤ 8796093022208) :
    Calls Try.prog 62 #[v] w fun e w' => e = .returned (.int .i64 ((dig 2 (val 4294967296 xs)).length : Nat)) ∧ w = w' := by
  obtain ⟨p, cap, rfl, h1, h2, hp⟩ := id hx
  have Hx := Lib.hid hx
  have Ht := Lib.hid hx.trim
  have At := Lib.hid (show All 4294967296 (trim xs) from ax.take _)
  have Vx := Lib.hid (show val 4294967296 xs = val 4294967296 (trim xs) from (trim_val xs).symm)
  have Td := Lib.hid (trim_eq (by omega) ax)
  have tl : (trim xs).length ≤ 8796093022208 := by have := trimTo_le xs xs.length; rw [trim_len]; omega
  clear hx ax
  generalize hq : trim xs = a at Ht At Vx tl Td
  have Hq := Lib.hid hq
  clear hq
  by_cases h0 : a = []
  · subst h0
    go_enter Try.func62, Try.ntmps62
    go_wp2_with fail
    refine (trim_to Hx.out Hq.out).mono ?_
    rintro e w' ⟨rfl, rfl⟩
    go_wp2_with fail
    go_ret
    exact ⟨by rw [Vx.out, val, dig_zero]; rfl, rfl⟩
  · obtain ⟨k, hk⟩ : ∃ k, a.length = k + 1 := ⟨a.length - 1, by have := List.length_pos_iff.2 h0; omega⟩
    obtain ⟨p', cap', e', g1, g2, g3⟩ := id Ht.out
    simp only [Value.slice.injEq, true_and] at e'
    obtain ⟨rfl, rfl⟩ := e'
    rcases g3 with g3 | ⟨b, off, rfl, hbl, hy⟩
    · exact absurd g3 h0
    have c1 : w.cell? ⟨b, off + k, none⟩ = some (.int .u32 (nth a k)) := hy k (by omega)
    have b1 := At.out.nth (j := k) (by omega)
    have Hn0 := Lib.hid (show nth a k ≠ 0 by
      have t := dig_top (b := 4294967296) (by omega) (val 4294967296 xs)
      rw [← Td.out] at t
      rcases t with t | t
      · exact absurd t h0
      · rw [hk] at t; exact t)
    have Hk := Lib.hid hk
    rw [hk] at tl
    have He := Lib.hid h0
    clear hy h0 hk g1
    go_enter Try.func62, Try.ntmps62
    go_wp2_with fail
    refine (trim_to Hx.out Hq.out).mono ?_
    rintro e w' ⟨rfl, rfl⟩
    rw [Hk.out]
    go_wp2_with fail
    refine (Len32_any _ _ (by omega) (by omega)).mono ?_
    rintro e w' ⟨rfl, rfl⟩
    have hbl := Lib.bitLen_le (nth a k) 32 (by omega) (by omega)
    have hb0 := bitLen_ge (nth a k) (by omega) (by have := Hn0.out; omega)
    have hb1 := bitLen_lt (nth a k) (by omega)
    rw [Int.toNat_natCast]
    generalize Lib.bitLen (nth a k) = l at *
    go_wp2_with fail
    go_ret
    refine ⟨ret_int ?_, rfl⟩
    have hv : val 4294967296 a = val 4294967296 (a.take k) + 4294967296 ^ k * nth a k := by
      have e1 := val_take_step 4294967296 a (k := k) (by rw [Hk.out]; omega)
      rwa [← Hk.out, List.take_length] at e1
    have hlt := val_lt (At.out.take k)
    rw [List.length_take, Nat.min_eq_left (by rw [Hk.out]; omega)] at hlt
    have hp : (4294967296 : Nat) ^ k = 2 ^ (32 * k) := by rw [Nat.pow_mul]
    obtain ⟨m, rfl⟩ : ∃ m, l = m + 1 := ⟨l - 1, by omega⟩
    have hd := dig_len_of (b := 2) (n := val 4294967296 a) (k := 32 * k + m) (by omega) (by
      rw [Nat.pow_add, ← hp, hv]
      have := Nat.mul_le_mul_left (4294967296 ^ k) hb0.1
      rw [Nat.add_sub_cancel] at this
      omega) (by
      rw [Nat.add_assoc, Nat.pow_add, ← hp, hv]
      have := Nat.mul_le_mul_left (4294967296 ^ k) (show nth a k + 1 ≤ 2 ^ (m + 1) from hb1)
      rw [Nat.mul_add] at this
      omega)
    rw [Vx.out, hd]
    omega

end Go.Proofs.Ytmmmpdpgkjcohaa
