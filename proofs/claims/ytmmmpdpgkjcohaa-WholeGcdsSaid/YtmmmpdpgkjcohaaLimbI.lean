/- Package limb: mulAdd, Mul: products of rows of limbs. -/
import Derived.Test.YtmmmpdpgkjcohaaLimbH
namespace Go.Proofs.Ytmmmpdpgkjcohaa
open Go.RowKit

/-- What mulAdd hands back: the carry; n limbs from off on are Z. -/
def WroteC (w : World) (g N off n : Nat) (c : Nat → Value) (P : List Nat → Nat → Prop) (en : Ending) (w' : World) : Prop :=
  ∃ (Z : List Nat) (cy : Nat), Z.length = n ∧ All 4294967296 Z ∧ cy < 4294967296 ∧ P Z cy ∧ en = .returned (.int .u32 cy) ∧ RowF w' 65 g N (lay c off n .u32 Z) ∧ w.grownBy w' (some g) ∧ w'.heap.size = w.heap.size

set_option maxHeartbeats 1000000 in
theorem mulAdd_any (g off N cap n x : Nat) (vy : Value) (c : Nat → Value) (os ys : List Nat) (w : World) (hr : RowF w 65 g N c) (hN : off + n ≤ N) (hx : x < 4294967296)
    (hc : ∀ j, j < n → c (off + j) = .int .u32 (nth os j)) (ho : os.length = n) (ao : All 4294967296 os)
    (hy : Sl w .u32 vy ys) (hne : ys ≠ [] → vy.ownBlock ≠ some g) (hm : ys.length = n) (ay : All 4294967296 ys) :
    Calls Try.prog 78 #[.slice (some ⟨g, off, none⟩) n cap, vy, .int .u32 x] w
      (WroteC w g N off n c (fun Z cy => val 4294967296 Z + 4294967296 ^ n * cy = x * val 4294967296 ys + val 4294967296 os)) := by
  obtain ⟨p, capy, rfl, h1, h2, h3⟩ := hy
  have ynth := nth_lt (by omega) ay
  have onth := nth_lt (by omega) ao
  obtain ⟨s, hs⟩ : ∃ s : Nat → Nat, s = fun j => nth ys j * x + nth os j := ⟨_, rfl⟩
  have clt : ∀ k, chC 4294967296 s 0 k < 4294967296 := fun k => by
    refine chC_lt (fun j => ?_) (by omega) k
    rw [hs]
    show nth ys j * x + nth os j + 4294967296 ≤ _
    have a := ynth j
    have b := onth j
    have := mul_le32 a hx
    omega
  obtain ⟨Z, hZ⟩ : ∃ Z, pre (chD 4294967296 s 0) n = Z := ⟨_, rfl⟩
  have hZn : ∀ j, j < n → nth Z j = chD 4294967296 s 0 j := fun j hj => by rw [← hZ]; exact pre_nth _ (by omega)
  have fin : Z.length = n ∧ All 4294967296 Z ∧ val 4294967296 Z + 4294967296 ^ n * chC 4294967296 s 0 n = x * val 4294967296 ys + val 4294967296 os := by
    refine ⟨by rw [← hZ, pre_len], by rw [← hZ]; exact pre_all fun j _ => chD_lt (by omega) _ _ _, ?_⟩
    have e := ch_val 4294967296 s 0 n
    rw [hZ, hs, val_add 4294967296 (fun j => nth ys j * x) (nth os), val_mul, val_pre_more _ ys (by omega), val_pre_more _ os (by omega), Nat.mul_comm _ x] at e
    rw [hs]
    omega
  rw [hm] at h1 ⊢
  have Hm := Lib.hid hm
  have HZn := Lib.hid hZn
  have Fin := Lib.hid fin
  have H3 := Lib.hid h3
  have Clt := Lib.hid clt
  have Hs := Lib.hid hs
  have Hne := Lib.hid hne
  have Hc := Lib.hid hc
  have Ynth := Lib.hid ynth
  have Onth := Lib.hid onth
  clear hm hZ hZn fin h3 clt hs hne hc ynth ay ao onth ho
  go_enter Try.func78, Try.ntmps78
  go_wp2_with fail
  go_loopw [7, 12] (fun cv i wr => ∃ k : Nat, k ≤ n ∧ i = .int .i64 k ∧ cv = .int .u64 (chC 4294967296 s 0 k) ∧ RowF wr 65 g N (lay c off k .u32 Z) ∧ w.grownBy wr (some g) ∧ wr.heap.size = w.heap.size) (fun _ i _ => (n - (intOf i).toNat))
  case atStart => exact ⟨0, by omega, rfl, rfl, by rw [lay_zero]; exact hr, grown_refl _ _, rfl⟩
  case round =>
    obtain ⟨k, hk, rfl, rfl, rr, gr, sr⟩ := hrel
    have Sr := Lib.hid sr
    clear sr
    have hcl := Clt.out k
    by_cases hlt : k < n
    · have f1 : wr.frozen? ⟨g, off + k, none⟩ = false := rr.frozen _
      have c1 : wr.cell? ⟨g, off + k, none⟩ = some (.int .u32 (nth os k)) := by
        rw [rr.cell (by omega), lay_out _ _ _ (by omega), Hc.out k hlt]
      have HC := Lib.hid (show chC 4294967296 s 0 (k + 1) = (chC 4294967296 s 0 k + s k) / 4294967296 from rfl)
      have HD := Lib.hid (show nth Z k = (chC 4294967296 s 0 k + s k) % 4294967296 from HZn.out k (by omega))
      rcases H3.out with h3 | ⟨b, boff, rfl, hbl, hy⟩
      · have := Hm.out; rw [h3] at this; simp at this; omega
      have c2 : wr.cell? ⟨b, boff + k, none⟩ = some (.int .u32 (nth ys k)) := by
        rw [World.cell?_of_block (w := w) (gr.block b hbl (by simpa [Value.ownBlock] using Hne.out (fun h => by have := Hm.out; rw [h] at this; simp at this; omega))), hy k (by rw [Hm.out]; omega)]
      clear hy
      have b2 : nth ys k < 4294967296 := Ynth.out k
      have b3 : nth os k < 4294967296 := Onth.out k
      have i1 : (k : Int) < (n : Int) := by omega
      have m1 := mul_le32i hx b2
      have m2 := mul_ge32i x (nth ys k)
      have HSk := Lib.hid (show (s k : Int) = (x : Int) * (nth ys k : Int) + (nth os k : Int) by rw [Hs.out]; show ((nth ys k * x + nth os k : Nat) : Int) = _; push_cast; rw [Int.mul_comm])
      generalize chC 4294967296 s 0 k = cr at *
      go_wp2
      go_roundw
      case rel =>
        refine ⟨k + 1, by omega, by go_num, int_eq ?_, ?_, grown_trans gr (grown_set _ _ _ _), by simpa using Sr.out⟩
        · have := HSk.out; rw [HC.out]; omega
        · refine lay_full rr (int_eq ?_)
          have := HSk.out; rw [HD.out]; omega
      case measure => simp [intOf]; omega
    · obtain rfl : k = n := by omega
      have Fe := Fin.out
      generalize chC 4294967296 s 0 k = cr at *
      have FE := Lib.hid Fe
      clear Fe
      go_wp2
      go_ret
      exact ⟨Z, cr, FE.out.1, FE.out.2.1, hcl, FE.out.2.2, ret_int (by omega), rr, gr, Sr.out⟩

theorem grow_pt {w w' : World} {e : TypeId} {g N k n : Nat} {Y Z : List Nat} {cy : Nat} {wv : Value} (hY : Y.length = N) (hk : k + n < N) (hZ : Z.length = n)
    (h : RowF w e g N (lay (fun j => .int .u32 (nth Y j)) k n .u32 Z)) (hw : w' = w.setCell ⟨g, k + n, none⟩ wv) (hv : wv = .int .u32 cy) :
    RowF w' e g N (fun j => .int .u32 (nth (patch Y Z k n cy) j)) := by
  subst hw
  subst hv
  refine (h.set (k + n) _).congr fun j hj => ?_
  by_cases h1 : j = k + n
  · subst h1
    rw [upd_at, patch_at (by omega) hZ]
  · rw [upd_ne _ _ h1]
    by_cases h2 : j < k
    · rw [lay_out _ _ _ (by omega), patch_lo (by omega) h2]
    · by_cases h3 : j < k + n
      · obtain ⟨i, rfl⟩ : ∃ i, j = k + i := ⟨j - k, by omega⟩
        rw [lay_in _ _ _ (by omega), patch_mid (by omega) hZ (by omega)]
      · rw [lay_out _ _ _ (by omega), patch_hi (by omega) hZ (by omega)]

set_option maxHeartbeats 1000000 in
theorem Mul_some {p q : Option Addr} {capx capy : Nat} {xs ys a b : List Nat} {w : World} (hx : Sl w .u32 (.slice p xs.length capx) xs) (hy : Sl w .u32 (.slice q ys.length capy) ys)
    (ha : trim xs = a) (hb : trim ys = b) (ha0 : a ≠ []) (hb0 : b ≠ []) (ax : All 4294967296 xs) (ay : All 4294967296 ys) (hm : a.length + b.length ≤ 8796093022208) :
    Calls Try.prog 57 #[.slice p xs.length capx, .slice q ys.length capy] w (Made 65 .u32 w (dig 4294967296 (val 4294967296 a * val 4294967296 b))) := by
  obtain ⟨i0, hi, hz0, hz1, hz2⟩ := info_parts Try.infoU
  have Hta := Lib.hid (show Sl w .u32 (.slice p a.length capx) a from ha ▸ hx.trim)
  have Htb := Lib.hid (show Sl w .u32 (.slice q b.length capy) b from hb ▸ hy.trim)
  have Aa := Lib.hid (show All 4294967296 a from ha ▸ ax.take _)
  have Ab := Lib.hid (show All 4294967296 b from hb ▸ ay.take _)
  have la : a.length ≠ 0 := fun h => ha0 (List.eq_nil_of_length_eq_zero h)
  have lb : b.length ≠ 0 := fun h => hb0 (List.eq_nil_of_length_eq_zero h)
  have tb : (((a.length : Nat) : Int) == 0) = false := by rw [beq_eq_false_iff_ne]; omega
  have tb' : (((b.length : Nat) : Int) == 0) = false := by rw [beq_eq_false_iff_ne]; omega
  have Hx := Lib.hid hx
  have Hy := Lib.hid hy
  have Ha := Lib.hid ha
  have Hb := Lib.hid hb
  have Ha0 := Lib.hid ha0
  have Hb0 := Lib.hid hb0
  clear hx hy ha hb ha0 hb0 ax ay
  go_enter Try.func57, Try.ntmps57
  go_wp2_with fail
  refine (trim_to Hx.out Ha.out).mono ?_
  rintro e w' ⟨rfl, rfl⟩
  go_wp2_with fail
  refine (trim_to Hy.out Hb.out).mono ?_
  rintro e w' ⟨rfl, rfl⟩
  go_wp2_with (at_make; refine wp_make rfl _ _ 22 rfl 65 i0 (.int .u32 0) Try.underlying22 hi hz0 hz1 (by omega) rfl _ _ _ _ (a.length + b.length) (a.length + b.length) rfl rfl (by omega) (by omega) (Nat.le_refl _) (by omega) ?_; intro w1 r1 g1 s1; have R1 := Lib.hid r1; have G1 := Lib.hid g1; clear r1 g1)
  go_loopw [28] (fun i wr => ∃ (k : Nat) (Y : List Nat), k ≤ a.length ∧ i = .int .i64 k ∧ w.grownBy wr none ∧ w.heap.size < wr.heap.size ∧ Y.length = a.length + b.length ∧ All 4294967296 Y ∧ val 4294967296 Y = val 4294967296 (a.take k) * val 4294967296 b ∧
      val 4294967296 (Y.drop (k + b.length)) = 0 ∧ RowF wr 65 w.heap.size (a.length + b.length) (fun j => .int .u32 (nth Y j))) (fun i _ => (a.length - (intOf i).toNat))
  case atStart =>
    refine ⟨0, List.replicate (a.length + b.length) 0, by omega, rfl, G1.out, by omega, by simp, All.rep (by omega) _, by rw [val_rep0]; simp [val], ?_, R1.out.congr fun j hj => ?_⟩
    · rw [List.drop_replicate, val_rep0]
    · simp [nth, hj]
  case round =>
    obtain ⟨k, Y, hk, rfl, gr, sr, yl, ya, yv, yz, rr⟩ := hrel
    have Yl := Lib.hid yl
    have Ya := Lib.hid ya
    have Yv := Lib.hid yv
    have Yz := Lib.hid yz
    have Gr := Lib.hid gr
    by_cases hlt : k < a.length
    · obtain ⟨p', cap', e', h1, h2, h3⟩ := id Hta.out
      have hpp : p' = p := by cases e'; rfl
      subst hpp
      rcases h3 with h3 | ⟨bb, off, rfl, hbl, hyy⟩
      · exact absurd h3 Ha0.out
      have c1 : wr.cell? ⟨bb, off + k, none⟩ = some (.int .u32 (nth a k)) := by
        rw [World.cell?_of_block (w := w) (gr.block bb hbl (by simp)), hyy k hlt]
      have b1 : nth a k < 4294967296 := Aa.out.nth hlt
      have i1 : (k : Int) < (a.length : Int) := by omega
      have i2 : (k : Int) ≤ (k : Int) + (b.length : Int) := by omega
      have i3 : k ≤ k + b.length := by omega
      have i4 : (k : Int) + (b.length : Int) ≤ (a.length : Int) + (b.length : Int) := by omega
      have i5 : k + b.length ≤ a.length + b.length := by omega
      have i6' : k + b.length < a.length + b.length := by omega
      have i6 : (k : Int) + (b.length : Int) < (a.length : Int) + (b.length : Int) := by omega
      have hk0 : ¬ a.length + b.length = k := by omega
      have Rr := Lib.hid rr
      clear hyy e' h1 yl ya yv yz gr rr
      go_wp2_with fail
      refine (mulAdd_any w.heap.size k (a.length + b.length) (a.length + b.length - k) b.length (nth a k) _ _ ((Y.drop k).take b.length) b wr Rr.out i5 b1 ?_ ?_ ((Ya.out.drop _).take _) (Htb.out.grown Gr.out (.inl rfl)) ?_ rfl Ab.out).mono ?_
      · intro j hj
        rw [nth_take _ hj, nth_drop]
      · rw [List.length_take, List.length_drop, Yl.out]; omega
      · intro h e
        have := Htb.out.block_lt h _ e
        omega
      · intro e w2 hwc
        obtain ⟨Z, cy, z1, z2, z3, z4, rfl, rr2, gr2, sr2⟩ := hwc
        have c2 : w2.cell? ⟨w.heap.size, k + b.length, none⟩ = some (.int .u32 (nth Y (k + b.length))) := by
          rw [rr2.cell (by omega), lay_out _ _ _ (by omega)]
        have f2 : w2.frozen? ⟨w.heap.size, k + b.length, none⟩ = false := rr2.frozen _
        have Z1 := Lib.hid z1
        have Z4 := Lib.hid z4
        have Pv := Lib.hid (patch_val (T := nth a k * val 4294967296 b) (by rw [Yl.out]; omega) (by omega) Yz.out z1 (by omega))
        have Gr2 := Lib.hid (grown_new Gr.out gr2 (Nat.le_refl _))
        have Rr2 := Lib.hid rr2
        have S2 := Lib.hid sr2
        clear z1 z4 gr2 rr2 sr2
        go_wp2_with fail
        go_roundw
        case rel =>
          refine ⟨k + 1, patch Y Z k b.length cy, by omega, by go_num, grown_new Gr2.out (grown_set _ _ _ _) (Nat.le_refl _), by simp; rw [S2.out]; exact sr, ?_, patch_all Ya.out z2 z3, ?_, Pv.out.2, grow_pt Yl.out i6' Z1.out Rr2.out rfl rfl⟩
          · rw [patch_len (by rw [Yl.out]; omega) Z1.out, Yl.out]
          · rw [Pv.out.1, Yv.out, val_take_step _ _ hlt, Nat.add_mul, Nat.mul_assoc]
        case measure => simp [intOf]; omega
    · obtain rfl : k = a.length := by omega
      have ho : Own wr 65 .u32 w.heap.size (.slice (some ⟨w.heap.size, 0, none⟩) (a.length + b.length) (a.length + b.length)) Y :=
        .inr ⟨w.heap.size, _, _, by rw [yl], Nat.le_refl _, rr, by omega, by omega, fun j _ => rfl⟩
      have Ho := Lib.hid ho
      clear ho yl ya yv yz gr rr
      go_wp2_with fail
      refine (trim_any _ _ _ Y _ Ho.out.sl).mono ?_
      rintro e w'' ⟨rfl, rfl⟩
      go_wp2_with fail
      go_ret
      refine ⟨_, rfl, ?_, Gr.out⟩
      have hv := Yv.out
      rw [List.take_length] at hv
      rw [← hv, ← trim_eq (by omega) Ya.out]
      exact Ho.out.trim

end Go.Proofs.Ytmmmpdpgkjcohaa
