/- Package limb: Sum, Add: the sum of rows of limbs, without 0s on top. -/
import Derived.Test.YtmmmpdpgkjcohaaLimbC
namespace Go.Proofs.Ytmmmpdpgkjcohaa
open Go.RowKit

/-- Between two summands. -/
structure SumInv (w wr : World) (lg k : Nat) (g cap : Nat) (tot : Nat) (zs : List Nat) : Prop where
  own : Own wr 65 .u32 w.heap.size (.slice (some ⟨g, 0, none⟩) zs.length cap) zs
  all : All 4294967296 zs
  sum : val 4294967296 zs = tot
  lo : lg ≤ zs.length
  hi : zs.length ≤ lg + k
  top : zs.length = lg ∨ 4294967296 ^ (zs.length - 1) ≤ val 4294967296 zs
  grown : w.grownBy wr none

theorem SumInv.start {w w1 : World} {lg : Nat} (hl : lg < 17592186044416) (r : RowF w1 65 w.heap.size (lg + 1) (fun _ => .int .u32 0)) (g : w.grownBy w1 none) :
    SumInv w w1 lg 0 w.heap.size (lg + 1) 0 (List.replicate lg 0) where
  own := by
    refine .inr ⟨_, _, _, rfl, Nat.le_refl _, r, by simp, by omega, fun j hj => ?_⟩
    simp at hj
    simp [nth, hj]
  all := All.rep (by omega) _
  sum := val_rep0 _ _
  lo := by simp
  hi := by simp
  top := .inl (by simp)
  grown := g

theorem SumInv.next {w wr w' : World} {lg k g cap tot : Nat} {zs ys : List Nat} {e : Ending} (h : SumInv w wr lg k g cap tot zs) (a : Added w.heap.size g wr zs ys e w') :
    ∃ g' cap' zs', e = .returned (.slice (some ⟨g', 0, none⟩) zs'.length cap') ∧ SumInv w w' lg (k + 1) g' cap' (tot + val 4294967296 ys) zs' := by
  obtain ⟨g', cap', zs', rfl, ho, ha, hv, h1, h2, h3, hg⟩ := a
  have hB := (h.own.lt g rfl).1
  refine ⟨g', cap', zs', rfl, ⟨ho, ha, by rw [hv, h.sum], by have := h.lo; omega, by have := h.hi; omega, ?_, grown_new h.grown hg hB⟩⟩
  rcases h3 with h3 | h3
  · rcases h.top with t | t
    · exact .inl (h3.trans t)
    · exact .inr (by rw [h3, hv]; omega)
  · exact .inr h3

theorem SumInv.done {w wr : World} {lg k g cap tot : Nat} {zs : List Nat} (h : SumInv w wr lg k g cap tot zs) (ht : lg ≠ 0 → 4294967296 ^ (lg - 1) ≤ tot) : zs = dig 4294967296 tot := by
  have t : Top zs := by
    refine top_of_val h.all ?_
    rcases h.top with t | t
    · by_cases h0 : lg = 0
      · exact .inl (List.eq_nil_of_length_eq_zero (by omega))
      · exact .inr (by rw [t, h.sum]; exact ht h0)
    · exact .inr t
  rw [← h.sum, dig_val (by omega) h.all t]

set_option maxHeartbeats 1000000 in
theorem Sum_any (v : Value) (n : Nat) (vs : Nat → Value) (ls : Nat → List Nat) (w : World) (hv : SlS w v n vs) (hs : ∀ j, j < n → Sl w .u32 (vs j) (ls j)) (ha : ∀ j, j < n → All 4294967296 (ls j))
    (M : Nat) (hM : ∀ j, j < n → (ls j).length ≤ M) (hlen : M + n < 17592186044416) :
    Calls Try.prog 65 #[v] w (Made 65 .u32 w (dig 4294967296 (sumF (fun j => val 4294967296 (ls j)) n))) := by
  obtain ⟨p, cap, rfl, h1, h2, h3⟩ := hv
  obtain ⟨i0, hi, hz0, hz1, hz2⟩ := info_parts Try.infoU
  obtain ⟨tl, htl⟩ : ∃ tl : Nat → Nat, tl = fun j => (trim (ls j)).length := ⟨_, rfl⟩
  obtain ⟨vl, hvl⟩ : ∃ vl : Nat → Nat, vl = fun j => val 4294967296 (ls j) := ⟨_, rfl⟩
  rw [← hvl]
  have tlM : ∀ j, j < n → tl j ≤ M := fun j hj => by
    rw [htl]
    have := hM j hj
    have := trimTo_le (ls j) (ls j).length
    show (trim (ls j)).length ≤ M
    rw [trim_len]; omega
  have mxM : ∀ k, k ≤ n → maxF tl k ≤ M := fun k hk => maxF_le _ fun j hj => tlM j (by omega)
  have Htl := Lib.hid htl
  have Hvl := Lib.hid hvl
  have Hs := Lib.hid hs
  have Ha := Lib.hid ha
  have H3 := Lib.hid h3
  have TlM := Lib.hid tlM
  have MxM := Lib.hid mxM
  have HM := Lib.hid hM
  clear htl hvl hs ha h3 tlM mxM hM
  go_enter Try.func65, Try.ntmps65
  go_wp2_with fail
  go_loopw [3, 11] (fun lv i wr => ∃ k : Nat, k ≤ n ∧ i = .int .i64 k ∧ lv = .int .i64 (maxF tl k) ∧ w = wr) (fun _ i _ => (n - (intOf i).toNat))
  case atStart => exact ⟨0, by omega, rfl, rfl, rfl⟩
  case round =>
    obtain ⟨k, hk, rfl, rfl, rfl⟩ := hrel
    by_cases hlt : k < n
    · rcases H3.out with h3 | ⟨b, off, rfl, hbl, hc⟩
      · omega
      obtain ⟨pk, capk, hvk, hk1, hk2, hk3⟩ := Hs.out k hlt
      have ck := hc k hlt
      rw [hvk] at ck
      have Sk := Lib.hid (hvk ▸ Hs.out k hlt)
      have HTk := Lib.hid (show (trim (ls k)).length = tl k by rw [Htl.out])
      have HX := Lib.hid (show maxF tl (k + 1) = max (maxF tl k) (tl k) from rfl)
      have m1 := MxM.out k hk
      have m2 := TlM.out k hlt
      clear hc hvk hk3
      generalize maxF tl k = mx at *
      have i1 : (k : Int) < (n : Int) := by omega
      go_wp2_with fail
      refine (trim_any _ _ _ _ _ Sk.out).mono ?_
      rintro e w' ⟨rfl, rfl⟩
      rw [HTk.out]
      go_wp2_with fail
      go_roundw
      case rel =>
        refine ⟨k + 1, by omega, by go_num, int_eq ?_, trivial⟩
        rw [HX.out]
        split <;> omega
      case measure => simp [intOf]; omega
    · obtain rfl : k = n := by omega
      have m1 := MxM.out k hk
      have Tot := Lib.hid (show maxF tl k ≠ 0 → 4294967296 ^ (maxF tl k - 1) ≤ sumF vl k by
        intro h0
        obtain ⟨j, hj, e⟩ := maxF_at tl k h0
        have h1 := sumF_ge vl hj
        have h2 : tl j = (dig 4294967296 (vl j)).length := by
          rw [Htl.out, Hvl.out]
          show (trim (ls j)).length = _
          rw [trim_eq (by omega) (Ha.out j hj)]
        rw [e, h2]
        refine Nat.le_trans (pow_le_dig (by omega) ?_) h1
        rw [← h2, ← e]
        exact h0)
      have TL := Lib.hid (show ∀ j, j < k → tl j ≤ maxF tl k from fun j hj => maxF_ge tl hj)
      generalize maxF tl k = mx at *
      go_wp2_with (at_make; refine wp_make rfl _ _ 22 rfl 65 i0 (.int .u32 0) Try.underlying22 hi hz0 hz1 (by omega) rfl _ _ _ _ mx (mx + 1) rfl rfl rfl (by omega) (by omega) (by omega) ?_; intro w1 r1 g1 s1; have Si := Lib.hid (SumInv.start (by omega) r1 g1); clear r1 g1 s1)
      go_loopw [6, 27] (fun ov i wr2 => ∃ (q g2 cap2 : Nat) (zs : List Nat), q ≤ k ∧ i = .int .i64 q ∧ ov = .slice (some ⟨g2, 0, none⟩) zs.length cap2 ∧ SumInv w wr2 mx q g2 cap2 (sumF vl q) zs) (fun _ i _ => (k - (intOf i).toNat))
      case atStart =>
        refine ⟨0, _, _, _, by omega, rfl, ?_, Si.out⟩
        simp
      case round =>
        obtain ⟨q, g2, cap2, zs, hq, rfl, rfl, inv⟩ := hrel
        by_cases hlt2 : q < k
        · rcases H3.out with h3 | ⟨b, off, rfl, hbl, hc⟩
          · omega
          obtain ⟨pk, capk, hvk, hk1, hk2, hk3⟩ := Hs.out q hlt2
          have ck := hc q hlt2
          rw [hvk] at ck
          have ck2 : wr.cell? ⟨b, off + q, none⟩ = some (.slice pk (ls q).length capk) := by
            rw [World.cell?_of_block (w := w) (inv.grown.block b hbl (by simp)), ck]
          have Sk0 := hvk ▸ Hs.out q hlt2
          have Sk := Lib.hid (Sk0.grown inv.grown (.inl rfl))
          have Tt : trim (ls q) = (ls q).take (trim (ls q)).length := by rw [trim_len]; rfl
          have Tl : (trim (ls q)).length ≤ (ls q).length := by rw [trim_len]; exact trimTo_le _ _
          have St : Sl wr .u32 (.slice pk (trim (ls q)).length capk) (trim (ls q)) := by
            have := (Sk0.grown inv.grown (.inl rfl)).take _ Tl
            rwa [← Tt] at this
          have StH := Lib.hid St
          have Hb := Lib.hid (show (trim (ls q)).length ≤ zs.length from by
            have h1 := TL.out q hlt2
            have h2 := inv.lo
            rw [Htl.out] at h1
            exact Nat.le_trans h1 h2)
          have Hne := Lib.hid (show trim (ls q) ≠ [] → (Value.slice pk (trim (ls q)).length capk).ownBlock ≠ some g2 by
            intro h0 e
            have l1 := (Sk0.take _ Tl).block_lt (by rw [← Tt]; exact h0) g2 e
            have l2 := (inv.own.lt g2 rfl).1
            omega)
          have i1 : (q : Int) < (k : Int) := by omega
          have hsz := inv.grown.size
          have Inv := Lib.hid inv
          have L2 := Lib.hid (show zs.length < 17592186044416 by have := inv.hi; omega)
          have HV := Lib.hid (show vl q = val 4294967296 (trim (ls q)) by rw [trim_val, Hvl.out])
          have HS := Lib.hid (show sumF vl (q + 1) = sumF vl q + vl q from rfl)
          have A1 := Lib.hid (show All 4294967296 (trim (ls q)) by rw [Tt]; exact (Ha.out q hlt2).take _)
          clear hc hvk hk3 inv ck Tt Tl St Sk0
          go_wp2_with fail
          refine (trim_any _ _ _ _ _ Sk.out).mono ?_
          rintro e w' ⟨rfl, rfl⟩
          go_wp2_with fail
          refine (addTo_any g2 cap2 w.heap.size _ zs (trim (ls q)) wr Inv.out.own StH.out Hne.out Hb.out Inv.out.all A1.out L2.out hsz).mono ?_
          intro e w' had
          obtain ⟨g3, cap3, zs3, rfl, inv3⟩ := Inv.out.next had
          go_wp2_with fail
          go_roundw
          case rel =>
            refine ⟨q + 1, g3, cap3, zs3, by omega, by go_num, rfl, ?_⟩
            rw [HS.out, HV.out]
            exact inv3
          case measure => simp [intOf]; omega
        · obtain rfl : q = k := by omega
          have Inv := Lib.hid inv
          clear inv
          go_wp2
          go_ret
          have e := Inv.out.done Tot.out
          have ho := Inv.out.own
          rw [← e]
          exact ⟨_, rfl, ho, Inv.out.grown⟩

end Go.Proofs.Ytmmmpdpgkjcohaa
