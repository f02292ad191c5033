/- Package limb: mulSub, addBack. -/
import Derived.Test.YtmmmpdpgkjcohaaLimbL
namespace Go.Proofs.Ytmmmpdpgkjcohaa
open Go.RowKit

/-- What mulSub hands back. -/
def Msub (w : World) (g N off n : Nat) (c : Nat → Value) (ps ys : List Nat) (x : Nat) (en : Ending) (w' : World) : Prop :=
  ∃ (Z : List Nat) (short : Bool), Z.length = n + 1 ∧ All 4294967296 Z ∧ en = .returned (.bool short) ∧ RowF w' 65 g N (lay c off (n + 1) .u32 Z) ∧ w.grownBy w' (some g) ∧ w'.heap.size = w.heap.size ∧
    val 4294967296 Z + x * val 4294967296 ys = val 4294967296 ps + (if short then 4294967296 ^ (n + 1) else 0)

set_option maxHeartbeats 2000000 in
theorem mulSub_any (g off N cap n x : Nat) (vy : Value) (c : Nat → Value) (ps ys : List Nat) (w : World) (hr : RowF w 65 g N c) (hN : off + n + 1 ≤ N) (hx : x < 4294967296)
    (hc : ∀ j, j < n + 1 → c (off + j) = .int .u32 (nth ps j)) (hps : ps.length = n + 1) (ap : All 4294967296 ps)
    (hy : Sl w .u32 vy ys) (hne : ys ≠ [] → vy.ownBlock ≠ some g) (hm : ys.length = n) (ay : All 4294967296 ys) :
    Calls Try.prog 97 #[.slice (some ⟨g, off, none⟩) (n + 1) cap, vy, .int .u32 x] w (Msub w g N off n c ps ys x) := by
  obtain ⟨p, capy, rfl, h1, h2, h3⟩ := hy
  have ynth := nth_lt (by omega) ay
  have pnth := nth_lt (by omega) ap
  have clt : ∀ k, msC 4294967296 (nth ps) (nth ys) x k < 4294967296 := msC_lt hx ynth
  obtain ⟨Z, hZ⟩ : ∃ Z, pre (msD 4294967296 (nth ps) (nth ys) x) n = Z := ⟨_, rfl⟩
  have hZn : ∀ j, j < n → nth Z j = msD 4294967296 (nth ps) (nth ys) x j := fun j hj => by rw [← hZ]; exact pre_nth _ (by omega)
  have hZl : Z.length = n := by rw [← hZ, pre_len]
  have aZ : All 4294967296 Z := by rw [← hZ]; exact pre_all fun j _ => msD_lt (by omega) pnth j
  have hv : val 4294967296 Z + x * val 4294967296 ys = val 4294967296 (ps.take n) + 4294967296 ^ n * msC 4294967296 (nth ps) (nth ys) x n := by
    have e := ms_val (b := 4294967296) (by omega) (nth ps) (nth ys) x n
    rw [hZ, val_pre_more _ ys (by omega), pre_take ps (by omega)] at e
    exact e
  have hv2 : val 4294967296 ps = val 4294967296 (ps.take n) + 4294967296 ^ n * nth ps n := by
    have e := val_take_step 4294967296 ps (k := n) (by omega)
    rwa [← hps, List.take_length] at e
  rw [hm] at h1 ⊢
  have Hm := Lib.hid hm
  have HZn := Lib.hid hZn
  have HZl := Lib.hid hZl
  have AZ := Lib.hid aZ
  have Hv := Lib.hid hv
  have Hv2 := Lib.hid hv2
  have H3 := Lib.hid h3
  have Clt := Lib.hid clt
  have Hne := Lib.hid hne
  have Hc := Lib.hid hc
  have Ynth := Lib.hid ynth
  have Pnth := Lib.hid pnth
  clear hm hZ hZn hZl aZ hv hv2 h3 clt hne hc ynth ay ap pnth hps
  go_enter Try.func97, Try.ntmps97
  go_wp2_with fail
  go_loopw [7, 15] (fun cv i wr => ∃ k : Nat, k ≤ n ∧ i = .int .i64 k ∧ cv = .int .u64 (msC 4294967296 (nth ps) (nth ys) x k) ∧ RowF wr 65 g N (lay c off k .u32 Z) ∧ w.grownBy wr (some g) ∧ wr.heap.size = w.heap.size) (fun _ i _ => (n - (intOf i).toNat))
  case atStart => exact ⟨0, by omega, rfl, rfl, by rw [lay_zero]; exact hr, grown_refl _ _, rfl⟩
  case round =>
    obtain ⟨k, hk, rfl, rfl, rr, gr, sr⟩ := hrel
    have Sr := Lib.hid sr
    clear sr
    have hcl := Clt.out k
    have f1 : wr.frozen? ⟨g, off + k, none⟩ = false := rr.frozen _
    have c1 : wr.cell? ⟨g, off + k, none⟩ = some (.int .u32 (nth ps k)) := by
      rw [rr.cell (by omega), lay_out _ _ _ (by omega), Hc.out k (by omega)]
    have b3 : nth ps k < 4294967296 := Pnth.out k
    by_cases hlt : k < n
    · rcases H3.out with h3 | ⟨b, boff, rfl, hbl, hy⟩
      · have := Hm.out; rw [h3] at this; simp at this; omega
      have c2 : wr.cell? ⟨b, boff + k, none⟩ = some (.int .u32 (nth ys k)) := by
        rw [World.cell?_of_block (w := w) (gr.block b hbl (by simpa [Value.ownBlock] using Hne.out (fun h => by have := Hm.out; rw [h] at this; simp at this; omega))), hy k (by rw [Hm.out]; omega)]
      clear hy
      have b2 : nth ys k < 4294967296 := Ynth.out k
      have i1 : (k : Int) < (n : Int) := by omega
      have i2 : (k : Int) < (n : Int) + 1 := by omega
      have m1 := mul_le32i hx b2
      have m2 := mul_ge32i x (nth ys k)
      have HC := Lib.hid (show msC 4294967296 (nth ps) (nth ys) x (k + 1) = (msC 4294967296 (nth ps) (nth ys) x k + x * nth ys k) / 4294967296 + if nth ps k < (msC 4294967296 (nth ps) (nth ys) x k + x * nth ys k) % 4294967296 then 1 else 0 from rfl)
      have HD := Lib.hid (show nth Z k = if nth ps k < (msC 4294967296 (nth ps) (nth ys) x k + x * nth ys k) % 4294967296 then nth ps k + 4294967296 - (msC 4294967296 (nth ps) (nth ys) x k + x * nth ys k) % 4294967296 else nth ps k - (msC 4294967296 (nth ps) (nth ys) x k + x * nth ys k) % 4294967296 from HZn.out k (by omega))
      generalize msC 4294967296 (nth ps) (nth ys) x k = cr at *
      obtain ⟨t, ht⟩ : ∃ t : Nat, (cr : Int) + (x : Int) * (nth ys k : Int) = (t : Int) := ⟨cr + x * nth ys k, by push_cast; rfl⟩
      have ht' : cr + x * nth ys k = t := by rw [← Int.natCast_mul] at ht; omega
      rw [ht'] at HC HD
      have htb : t ≤ 18446744069414584320 := by
        have := mul_le32 hx b2
        omega
      have HT := Lib.hid ht'
      clear ht'
      by_cases hlo : nth ps k < t % 4294967296
      · have t1 : decide ((nth ps k : Int) < (t : Int) % 4294967296) = true := by rw [decide_eq_true_iff]; omega
        have i3 : (nth ps k : Int) < (t : Int) % 4294967296 := by omega
        go_wp2
        go_roundw
        case rel =>
          refine ⟨k + 1, by omega, by go_num, int_eq (by rw [HC.out, if_pos hlo]; omega), lay_full rr (int_eq (by rw [HD.out, if_pos hlo]; omega)), grown_trans gr (grown_set _ _ _ _), by simpa using Sr.out⟩
        case measure => simp [intOf]; omega
      · have t1 : decide ((nth ps k : Int) < (t : Int) % 4294967296) = false := by rw [decide_eq_false_iff_not]; omega
        have i3 : (t : Int) % 4294967296 ≤ (nth ps k : Int) := by omega
        go_wp2
        go_roundw
        case rel =>
          refine ⟨k + 1, by omega, by go_num, int_eq (by rw [HC.out, if_neg hlo]; omega), lay_full rr (int_eq (by rw [HD.out, if_neg hlo]; omega)), grown_trans gr (grown_set _ _ _ _), by simpa using Sr.out⟩
        case measure => simp [intOf]; omega
    · obtain rfl : k = n := by omega
      have Hv' := Hv.out
      generalize msC 4294967296 (nth ps) (nth ys) x k = cr at *
      have HV := Lib.hid Hv'
      clear Hv' Hv
      have i2 : (k : Int) < (k : Int) + 1 := by omega
      have fin : ∀ (d : Nat) (vv : Value), vv = .int .u32 d → d < 4294967296 → RowF (wr.setCell ⟨g, off + k, none⟩ vv) 65 g N (lay c off (k + 1) .u32 (Z ++ [d])) := by
        intro d vv hvv _
        have e : lay c off k .u32 (Z ++ [d]) = lay c off k .u32 Z := by
          funext j
          by_cases hj : off ≤ j ∧ j < off + k
          · obtain ⟨i, rfl⟩ : ∃ i, j = off + i := ⟨j - off, by omega⟩
            rw [lay_in _ _ _ (by omega), lay_in _ _ _ (by omega), nth_app_lt _ _ (by have := HZl.out; omega)]
          · rw [lay_out _ _ _ (by omega), lay_out _ _ _ (by omega)]
        refine lay_full (by rw [e]; exact rr) ?_
        rw [hvv]
        have := nth_app_at Z d
        rw [HZl.out] at this
        rw [this]
      have Fin := Lib.hid fin
      clear fin
      by_cases hs : nth ps k < cr
      · have t1 : decide ((nth ps k : Int) < (cr : Int)) = true := by rw [decide_eq_true_iff]; omega
        have i4 : (nth ps k : Int) < (cr : Int) := by omega
        go_wp2
        go_ret
        refine ⟨Z ++ [nth ps k + 4294967296 - cr], true, by rw [List.length_append, HZl.out]; rfl, AZ.out.app (All.cons (by omega) (All.nil _)), rfl, Fin.out _ _ (int_eq (by omega)) (by omega), grown_trans gr (grown_set _ _ _ _), by simpa using Sr.out, ?_⟩
        rw [val_snoc, HZl.out, if_pos rfl, Hv2.out, Nat.pow_succ]
        have e1 := HV.out
        have e2 : 4294967296 ^ k * (nth ps k + 4294967296 - cr) + 4294967296 ^ k * cr = 4294967296 ^ k * nth ps k + 4294967296 ^ k * 4294967296 := by
          rw [← Nat.mul_add, ← Nat.mul_add]; congr 1; omega
        omega
      · have t1 : decide ((nth ps k : Int) < (cr : Int)) = false := by rw [decide_eq_false_iff_not]; omega
        have i4 : (cr : Int) ≤ (nth ps k : Int) := by omega
        go_wp2
        go_ret
        refine ⟨Z ++ [nth ps k - cr], false, by rw [List.length_append, HZl.out]; rfl, AZ.out.app (All.cons (by omega) (All.nil _)), rfl, Fin.out _ _ (int_eq (by omega)) (by omega), grown_trans gr (grown_set _ _ _ _), by simpa using Sr.out, ?_⟩
        rw [val_snoc, HZl.out, Hv2.out]
        have e1 := HV.out
        have e2 : 4294967296 ^ k * (nth ps k - cr) + 4294967296 ^ k * cr = 4294967296 ^ k * nth ps k := by
          rw [← Nat.mul_add]; congr 1; omega
        simp only [Bool.false_eq_true, if_false]
        omega

/-- What addBack leaves. -/
def AddedBack (w : World) (g N off n : Nat) (c : Nat → Value) (ps ys : List Nat) (en : Ending) (w' : World) : Prop :=
  ∃ (Z : List Nat) (cc : Nat), Z.length = n + 1 ∧ All 4294967296 Z ∧ en = .returned (.tuple #[]) ∧ RowF w' 65 g N (lay c off (n + 1) .u32 Z) ∧ w.grownBy w' (some g) ∧ w'.heap.size = w.heap.size ∧
    val 4294967296 Z + 4294967296 ^ (n + 1) * cc = val 4294967296 ps + val 4294967296 ys

set_option maxHeartbeats 2000000 in
theorem addBack_any (g off N cap n : Nat) (vy : Value) (c : Nat → Value) (ps ys : List Nat) (w : World) (hr : RowF w 65 g N c) (hN : off + n + 1 ≤ N)
    (hc : ∀ j, j < n + 1 → c (off + j) = .int .u32 (nth ps j)) (hps : ps.length = n + 1) (ap : All 4294967296 ps)
    (hy : Sl w .u32 vy ys) (hne : ys ≠ [] → vy.ownBlock ≠ some g) (hm : ys.length = n) (ay : All 4294967296 ys) :
    Calls Try.prog 98 #[.slice (some ⟨g, off, none⟩) (n + 1) cap, vy] w (AddedBack w g N off n c ps ys) := by
  obtain ⟨p, capy, rfl, h1, h2, h3⟩ := hy
  have ynth := nth_lt (by omega) ay
  have pnth := nth_lt (by omega) ap
  have cle : ∀ k, addC 4294967296 (nth ps) (nth ys) k ≤ 1 := addC_le pnth ynth
  obtain ⟨Z, hZ⟩ : ∃ Z, pre (addD 4294967296 (nth ps) (nth ys)) (n + 1) = Z := ⟨_, rfl⟩
  have hZn : ∀ j, j < n + 1 → nth Z j = addD 4294967296 (nth ps) (nth ys) j := fun j hj => by rw [← hZ]; exact pre_nth _ (by omega)
  have fin : Z.length = n + 1 ∧ All 4294967296 Z ∧ val 4294967296 Z + 4294967296 ^ (n + 1) * addC 4294967296 (nth ps) (nth ys) (n + 1) = val 4294967296 ps + val 4294967296 ys := by
    refine ⟨by rw [← hZ, pre_len], by rw [← hZ]; exact pre_all fun j _ => addD_lt (by omega) _ _ _, ?_⟩
    have e := add_val 4294967296 (nth ps) (nth ys) (n + 1)
    rw [hZ, val_pre_more _ ys (by omega), val_pre_more _ ps (by omega)] at e
    exact e
  rw [hm] at h1 ⊢
  have Hm := Lib.hid hm
  have HZn := Lib.hid hZn
  have Fin := Lib.hid fin
  have H3 := Lib.hid h3
  have Cle := Lib.hid cle
  have Hne := Lib.hid hne
  have Hc := Lib.hid hc
  have Ynth := Lib.hid ynth
  have Pnth := Lib.hid pnth
  clear hm hZ hZn fin h3 cle hne hc ynth ay ap pnth hps
  go_enter Try.func98, Try.ntmps98
  go_wp2_with fail
  go_loopw [4, 9] (fun cv i wr => ∃ k : Nat, k ≤ n ∧ i = .int .i64 k ∧ cv = .int .u64 (addC 4294967296 (nth ps) (nth ys) k) ∧ RowF wr 65 g N (lay c off k .u32 Z) ∧ w.grownBy wr (some g) ∧ wr.heap.size = w.heap.size) (fun _ i _ => (n - (intOf i).toNat))
  case atStart => exact ⟨0, by omega, rfl, rfl, by rw [lay_zero]; exact hr, grown_refl _ _, rfl⟩
  case round =>
    obtain ⟨k, hk, rfl, rfl, rr, gr, sr⟩ := hrel
    have Sr := Lib.hid sr
    clear sr
    have hcl := Cle.out k
    have f1 : wr.frozen? ⟨g, off + k, none⟩ = false := rr.frozen _
    have c1 : wr.cell? ⟨g, off + k, none⟩ = some (.int .u32 (nth ps k)) := by
      rw [rr.cell (by omega), lay_out _ _ _ (by omega), Hc.out k (by omega)]
    have b3 : nth ps k < 4294967296 := Pnth.out k
    have HC := Lib.hid (show addC 4294967296 (nth ps) (nth ys) (k + 1) = (addC 4294967296 (nth ps) (nth ys) k + (nth ps k + nth ys k)) / 4294967296 from rfl)
    have HD := Lib.hid (show nth Z k = (addC 4294967296 (nth ps) (nth ys) k + (nth ps k + nth ys k)) % 4294967296 from HZn.out k (by omega))
    generalize addC 4294967296 (nth ps) (nth ys) k = cr at *
    by_cases hlt : k < n
    · rcases H3.out with h3 | ⟨b, boff, rfl, hbl, hy⟩
      · have := Hm.out; rw [h3] at this; simp at this; omega
      have c2 : wr.cell? ⟨b, boff + k, none⟩ = some (.int .u32 (nth ys k)) := by
        rw [World.cell?_of_block (w := w) (gr.block b hbl (by simpa [Value.ownBlock] using Hne.out (fun h => by have := Hm.out; rw [h] at this; simp at this; omega))), hy k (by rw [Hm.out]; omega)]
      clear hy
      have b2 : nth ys k < 4294967296 := Ynth.out k
      have i1 : (k : Int) < (n : Int) := by omega
      have i2 : (k : Int) < (n : Int) + 1 := by omega
      go_wp2
      go_roundw
      case rel =>
        refine ⟨k + 1, by omega, by go_num, int_eq (by rw [HC.out]; omega), lay_full rr (int_eq (by rw [HD.out]; omega)), grown_trans gr (grown_set _ _ _ _), by simpa using Sr.out⟩
      case measure => simp [intOf]; omega
    · obtain rfl : k = n := by omega
      have y0 := Lib.hid (show nth ys k = 0 from nth_out ys (by rw [Hm.out]; omega))
      have i2 : (k : Int) < (k : Int) + 1 := by omega
      go_wp2
      go_end0
      refine ⟨Z, _, Fin.out.1, Fin.out.2.1, rfl, lay_full rr (int_eq ?_), grown_trans gr (grown_set _ _ _ _), by simpa using Sr.out, Fin.out.2.2⟩
      rw [HD.out, y0.out]
      omega

end Go.Proofs.Ytmmmpdpgkjcohaa
