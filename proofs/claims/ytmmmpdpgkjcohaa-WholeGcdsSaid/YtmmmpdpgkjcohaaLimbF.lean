/- Package limb: Sub: the difference, or that there is none. -/
import Derived.Test.YtmmmpdpgkjcohaaLimbE
namespace Go.Proofs.Ytmmmpdpgkjcohaa
open Go.RowKit

/-- What Sub hands back. -/
def Subbed (w : World) (m n : Nat) (en : Ending) (w' : World) : Prop :=
  (m < n ∧ en = .returned (.tuple #[.slice none 0 0, .bool false]) ∧ w.grownBy w' none) ∨
  (n ≤ m ∧ ∃ v, en = .returned (.tuple #[v, .bool true]) ∧ Own w' 65 .u32 w.heap.size v (dig 4294967296 (m - n)) ∧ w.grownBy w' none)

theorem subbed_end {B g cap k : Nat} {wr : World} {c : Nat → Value} {xs ys : List Nat} (hB : B ≤ g) (hle : xs.length ≤ cap) (hcap : cap ≤ 9223372036854775807)
    (hx : ∀ j, j < xs.length → c j = .int .u32 (nth xs j)) (hky : ys.length ≤ k)
    (h0 : subC (nth xs) (nth ys) k = 0)
    (hr : RowF wr 65 g cap (lay c 0 k .u32 (pre (subD 4294967296 (nth xs) (nth ys)) xs.length))) :
    Own wr 65 .u32 B (.slice (some ⟨g, 0, none⟩) xs.length cap) (pre (subD 4294967296 (nth xs) (nth ys)) xs.length) := by
  refine .inr ⟨g, cap, _, by rw [pre_len], hB, hr, by rw [pre_len]; exact hle, hcap, fun j hj => ?_⟩
  rw [pre_len] at hj
  rw [pre_nth _ hj]
  by_cases hjk : j < k
  · rw [lay_in0 _ _ _ hjk, pre_nth _ hj]
  · rw [lay_out _ _ _ (by omega), hx j hj, subD_rest h0 hky (by omega)]

theorem Own.trim {w : World} {e : TypeId} {k : IntKind} {B : Nat} {p : Option Addr} {m cap : Nat} {xs : List Nat} (h : Own w e k B (.slice p m cap) xs) : Own w e k B (.slice p (Go.Proofs.Ytmmmpdpgkjcohaa.trim xs).length cap) (Go.Proofs.Ytmmmpdpgkjcohaa.trim xs) := by
  have hl : (Go.Proofs.Ytmmmpdpgkjcohaa.trim xs).length ≤ xs.length := by rw [trim_len]; exact trimTo_le _ _
  have := h.take _ hl
  rwa [show xs.take (Go.Proofs.Ytmmmpdpgkjcohaa.trim xs).length = Go.Proofs.Ytmmmpdpgkjcohaa.trim xs by rw [trim_len]; rfl] at this
theorem Sl.trim {w : World} {k : IntKind} {p : Option Addr} {m cap : Nat} {xs : List Nat} (h : Sl w k (.slice p m cap) xs) : Sl w k (.slice p (Go.Proofs.Ytmmmpdpgkjcohaa.trim xs).length cap) (Go.Proofs.Ytmmmpdpgkjcohaa.trim xs) := by
  have hl : (Go.Proofs.Ytmmmpdpgkjcohaa.trim xs).length ≤ xs.length := by rw [trim_len]; exact trimTo_le _ _
  have := h.take _ hl
  rwa [show xs.take (Go.Proofs.Ytmmmpdpgkjcohaa.trim xs).length = Go.Proofs.Ytmmmpdpgkjcohaa.trim xs by rw [trim_len]; rfl] at this

set_option maxHeartbeats 400000 in
theorem Sub_less {v u : Value} {xs ys : List Nat} {w : World} (hx : Sl w .u32 v xs) (hy : Sl w .u32 u ys) (ax : All 4294967296 xs) (ay : All 4294967296 ys) (hlt : val 4294967296 xs < val 4294967296 ys) :
    Calls Try.prog 72 #[v, u] w (Subbed w (val 4294967296 xs) (val 4294967296 ys)) := by
  have Hx := Lib.hid hx
  have Hy := Lib.hid hy
  have Ax := Lib.hid ax
  have Ay := Lib.hid ay
  have Hlt := Lib.hid (cmpN_lt hlt)
  clear hx hy ax ay
  go_enter Try.func72, Try.ntmps72
  go_wp2_with fail
  refine (Cmp_any Hx.out Hy.out Ax.out Ay.out).mono ?_
  rintro e w' ⟨rfl, d, rfl⟩
  rw [Hlt.out]
  go_wp2_with fail
  go_ret2
  exact .inl ⟨hlt, rfl, ⟨rfl, rfl, rfl, Nat.le_refl _, fun _ _ _ => rfl⟩⟩

theorem grown_drewN (w : World) (n : Nat) (row : Option Nat) : w.grownBy (w.drewN n) row := ⟨rfl, rfl, rfl, Nat.le_refl _, fun _ _ _ => rfl⟩

set_option maxHeartbeats 1000000 in
theorem Sub_more {v u : Value} {xs ys : List Nat} {w : World} (hx : Sl w .u32 v xs) (hy : Sl w .u32 u ys) (ax : All 4294967296 xs) (ay : All 4294967296 ys) (hle : val 4294967296 ys ≤ val 4294967296 xs) (hlen : xs.length ≤ 17592186044416) :
    Calls Try.prog 72 #[v, u] w (Subbed w (val 4294967296 xs) (val 4294967296 ys)) := by
  obtain ⟨p, cap, rfl, -⟩ := id hx
  obtain ⟨q, capy, rfl, -⟩ := id hy
  have Hx := Lib.hid hx
  have Hy := Lib.hid hy
  have Ax := Lib.hid ax
  have Ay := Lib.hid ay
  have Hle := Lib.hid hle
  obtain ⟨cv, hcv⟩ : ∃ cv, cmpN (val 4294967296 xs) (val 4294967296 ys) = cv := ⟨_, rfl⟩
  have h0 : (0 : Int) ≤ cv := by rw [← hcv]; unfold cmpN; split; · omega
                                 · split <;> omega
  have Hcv := Lib.hid hcv
  clear hx hy ax ay hle hcv
  go_enter Try.func72, Try.ntmps72
  go_wp2_with fail
  refine (Cmp_any Hx.out Hy.out Ax.out Ay.out).mono ?_
  rintro e w' ⟨rfl, d, rfl⟩
  rw [Hcv.out]
  go_wp2_with fail
  refine (Norm_at (Hx.out.grown (grown_drewN w d none) (.inl rfl)) hlen).mono ?_
  rintro e w1 ⟨g, cp, rfl, ho0, hg0⟩
  have hg1 : w.grownBy w1 none := grown_trans (grown_drewN w d none) hg0
  have ho : Own w1 65 .u32 w.heap.size (.slice (some ⟨g, 0, none⟩) (trim xs).length cp) (trim xs) := ho0
  have Hy1 := Lib.hid (Hy.out.grown hg1 (.inl rfl))
  have Hyt := Lib.hid (Hy.out.trim)
  have tl : (trim ys).length ≤ (trim xs).length := by
    rw [trim_eq (by omega) Ax.out, trim_eq (by omega) Ay.out]
    rcases Nat.lt_or_ge (dig 4294967296 (val 4294967296 xs)).length (dig 4294967296 (val 4294967296 ys)).length with h | h
    · have := dig_len_lt (by omega) h; have := Hle.out; omega
    · exact h
  have At := Lib.hid (show All 4294967296 (trim xs) from Ax.out.take _)
  have Bt := Lib.hid (show All 4294967296 (trim ys) from Ay.out.take _)
  have Hle2 := Lib.hid (show val 4294967296 (trim ys) ≤ val 4294967296 (trim xs) by rw [trim_val, trim_val]; exact Hle.out)
  have Vx := Lib.hid (show val 4294967296 xs = val 4294967296 (trim xs) from (trim_val xs).symm)
  have Vy := Lib.hid (show val 4294967296 ys = val 4294967296 (trim ys) from (trim_val ys).symm)
  have Tlm : (trim xs).length ≤ 17592186044416 := by have := trimTo_le xs xs.length; rw [trim_len]; omega
  go_wp2_with fail
  refine (trim_any _ _ _ _ _ Hy1.out).mono ?_
  rintro e w' ⟨rfl, rfl⟩
  generalize trim xs = a at *
  generalize trim ys = b at *
  clear Hx Hy Hy1 Hcv Hle Ax Ay ho0 hg0
  rcases ho with ⟨h, _⟩ | ⟨g', cp', c, e, hBg, hr, hac, hcap, hx⟩
  · cases h
  simp only [Value.slice.injEq, Option.some.injEq, Addr.mk.injEq, and_true] at e
  obtain ⟨rfl, -, rfl⟩ := e
  obtain ⟨n, hn⟩ : ∃ n, a.length = n := ⟨_, rfl⟩
  obtain ⟨m, hm⟩ : ∃ m, b.length = m := ⟨_, rfl⟩
  obtain ⟨Z, hZ⟩ : ∃ Z, pre (subD 4294967296 (nth a) (nth b)) a.length = Z := ⟨_, rfl⟩
  have hZn : ∀ j, j < n → nth Z j = subD 4294967296 (nth a) (nth b) j := fun j hj => by rw [← hZ]; exact pre_nth _ (by omega)
  have Hend := Lib.hid (subC_end At.out Bt.out (by omega) tl Hle2.out)
  rw [hn] at tl Tlm hac hx ⊢
  rw [hm] at tl ⊢
  have Hn := Lib.hid hn
  have Hm := Lib.hid hm
  have HZ := Lib.hid hZ
  have HZn := Lib.hid hZn
  have Hxx := Lib.hid hx
  have Hg := Lib.hid hg1
  have hs1 := hg1.size
  clear hn hm hZ hZn hx hg1
  go_wp2_with fail
  go_loopw [7, 22] (fun cv i wr => ∃ k : Nat, k ≤ m ∧ i = .int .i64 k ∧ cv = .int .u64 (subC (nth a) (nth b) k) ∧ RowF wr 65 g cp (lay c 0 k .u32 Z) ∧ w1.grownBy wr (some g)) (fun _ i _ => (m - (intOf i).toNat))
  case atStart => exact ⟨0, by omega, rfl, rfl, by rw [lay_zero]; exact hr, grown_refl _ _⟩
  case round =>
    obtain ⟨k, hk, rfl, rfl, rr, gr⟩ := hrel
    have hcr := subC_le (nth a) (nth b) k
    by_cases hlt : k < m
    · have c1 : wr.cell? ⟨g, k, none⟩ = some (.int .u32 (nth a k)) := by
        rw [rr.cell (by omega), lay_out _ _ _ (by omega), Hxx.out k (by omega)]
      obtain ⟨p', cap', e', -, -, h3⟩ := Hyt.out
      have hqq : p' = q := by cases e'; rfl
      subst hqq
      rcases h3 with h3 | ⟨bb, off, rfl, hbl, hy⟩
      · have := Hm.out; rw [h3] at this; simp at this; omega
      have c2 : wr.cell? ⟨bb, off + k, none⟩ = some (.int .u32 (nth b k)) := by
        rw [World.cell?_of_block (w := w1) (gr.block bb (by omega) (by simp; omega)), World.cell?_of_block (w := w) (Hg.out.block bb hbl (by simp)), hy k (by rw [Hm.out]; omega)]
      clear hy e'
      have f1 : wr.frozen? ⟨g, k, none⟩ = false := rr.frozen k
      have b1 : nth a k < 4294967296 := nth_lt (by omega) At.out k
      have b2 : nth b k < 4294967296 := nth_lt (by omega) Bt.out k
      have i1 : (k : Int) < (n : Int) := by omega
      have HS := Lib.hid (show nth Z k + (nth b k + subC (nth a) (nth b) k) = nth a k + 4294967296 * subC (nth a) (nth b) (k + 1) by
        rw [HZn.out k (by omega)]; exact subD_spec (nth_lt (by omega) Bt.out) k)
      have HC := Lib.hid (show subC (nth a) (nth b) (k + 1) = if nth a k < nth b k + subC (nth a) (nth b) k then 1 else 0 from rfl)
      generalize subC (nth a) (nth b) k = cr at *
      by_cases hlt1 : nth a k < nth b k
      · have hC1 : subC (nth a) (nth b) (k + 1) = 1 := by rw [HC.out, if_pos (by omega)]
        have HC1 := Lib.hid hC1
        have e2 := HS.out
        rw [hC1] at e2
        have HE := Lib.hid e2
        clear hC1 e2
        go_wp2
        go_roundw
        case rel =>
          refine ⟨k + 1, by omega, by go_num, int_eq (by rw [HC1.out]; exact borrow_lt _ _ _ b2 hcr hlt1), ?_, grown_trans gr (grown_set _ _ _ _)⟩
          rw [← lay_step0 c k .u32 Z rfl]
          refine (rr.set k _).congr fun j _ => ?_
          congr 1
          refine int_eq ?_
          rw [borrow_lt_d _ _ _ b2 hcr hlt1]
          have := HE.out
          omega
        case measure => simp [intOf]; omega
      · by_cases hlt2 : nth a k < nth b k + cr
        · have hC1 : subC (nth a) (nth b) (k + 1) = 1 := by rw [HC.out, if_pos hlt2]
          have HC1 := Lib.hid hC1
          have e2 := HS.out
          rw [hC1] at e2
          have HE := Lib.hid e2
          clear hC1 e2
          go_wp2
          go_roundw
          case rel =>
            refine ⟨k + 1, by omega, by go_num, int_eq (by rw [HC1.out]; exact borrow_eq _ _ _ (by omega) hcr hlt2), ?_, grown_trans gr (grown_set _ _ _ _)⟩
            rw [← lay_step0 c k .u32 Z rfl]
            refine (rr.set k _).congr fun j _ => ?_
            congr 1
            refine int_eq ?_
            rw [borrow_eq_d _ _ _ (by omega) hcr hlt2]
            have := HE.out
            omega
          case measure => simp [intOf]; omega
        · have hC1 : subC (nth a) (nth b) (k + 1) = 0 := by rw [HC.out, if_neg hlt2]
          have HC1 := Lib.hid hC1
          have e2 := HS.out
          rw [hC1] at e2
          have HE := Lib.hid e2
          clear hC1 e2
          go_wp2
          go_roundw
          case rel =>
            refine ⟨k + 1, by omega, by go_num, int_eq (by rw [HC1.out]; exact borrow_no _ _ _ b1 (by omega)), ?_, grown_trans gr (grown_set _ _ _ _)⟩
            rw [← lay_step0 c k .u32 Z rfl]
            refine (rr.set k _).congr fun j _ => ?_
            congr 1
            refine int_eq ?_
            have := HE.out
            omega
          case measure => simp [intOf]; omega
    · obtain rfl : k = m := by omega
      generalize hcr0 : subC (nth a) (nth b) k = cr at *
      have HC0 := Lib.hid hcr0
      clear hcr0
      go_wp2
      go_loopw [11, 7] (fun i cv wr2 => ∃ q : Nat, k ≤ q ∧ q ≤ n ∧ i = .int .i64 q ∧ cv = .int .u64 (subC (nth a) (nth b) q) ∧ RowF wr2 65 g cp (lay c 0 q .u32 Z) ∧ w1.grownBy wr2 (some g)) (fun i _ _ => (n - (intOf i).toNat))
      case atStart => exact ⟨k, Nat.le_refl _, by omega, rfl, by rw [HC0.out], rr, gr⟩
      case round =>
        obtain ⟨q, hq, hqn, rfl, rfl, rr2, gr2⟩ := hrel
        have hcq := subC_le (nth a) (nth b) q
        have HC := Lib.hid (show subC (nth a) (nth b) (q + 1) = if nth a q < nth b q + subC (nth a) (nth b) q then 1 else 0 from rfl)
        generalize hcr1 : subC (nth a) (nth b) q = cq at *
        have HC1 := Lib.hid hcr1
        clear hcr1
        by_cases h0 : cq = 0
        · obtain rfl := h0
          have ho2 : Own wr 65 .u32 w.heap.size (.slice (some ⟨g, 0, none⟩) n cp) Z := by
            have e := HZ.out
            have hn := Hn.out
            have hm := Hm.out
            subst hn
            subst e
            exact subbed_end hBg hac hcap Hxx.out (by omega) HC1.out rr2
          have Ho2 := Lib.hid ho2
          have Hgf := Lib.hid (grown_new Hg.out gr2 hBg)
          clear ho2
          go_wp2_with fail
          refine (trim_any _ _ _ Z _ Ho2.out.sl).mono ?_
          rintro e w' ⟨rfl, rfl⟩
          go_wp2_with fail
          go_ret2
          have hv : val 4294967296 Z = val 4294967296 a - val 4294967296 b := by
            rw [← HZ.out]
            exact sub_all At.out Bt.out (by omega) (by rw [Hn.out, Hm.out]; omega) Hle2.out
          refine .inr ⟨by rw [Vx.out, Vy.out]; exact Hle2.out, _, rfl, ?_, Hgf.out⟩
          have az : All 4294967296 Z := by rw [← HZ.out]; exact pre_all (fun j _ => subD_lt (nth_lt (by omega) At.out) j)
          rw [Vx.out, Vy.out, ← hv, ← trim_eq (by omega) az]
          exact Ho2.out.trim
        · obtain rfl : cq = 1 := by omega
          clear h0
          by_cases hlt2 : q < n
          · have c1 : wr.cell? ⟨g, q, none⟩ = some (.int .u32 (nth a q)) := by
              rw [rr2.cell (by omega), lay_out _ _ _ (by omega), Hxx.out q (by omega)]
            have f1 : wr.frozen? ⟨g, q, none⟩ = false := rr2.frozen q
            have b1 : nth a q < 4294967296 := nth_lt (by omega) At.out q
            have i1 : (q : Int) < (n : Int) := by omega
            have y0 : nth b q = 0 := nth_out b (by rw [Hm.out]; omega)
            have HS := Lib.hid (show nth Z q + (nth b q + subC (nth a) (nth b) q) = nth a q + 4294967296 * subC (nth a) (nth b) (q + 1) by
              rw [HZn.out q (by omega)]; exact subD_spec (nth_lt (by omega) Bt.out) q)
            have HY := Lib.hid y0
            clear y0
            have rr3 : RowF (wr.setCell ⟨g, q, none⟩ (.int .u32 (nth Z q))) 65 g cp (lay c 0 (q + 1) .u32 Z) := by
              rw [← lay_step0 c q .u32 Z rfl]
              exact rr2.set q _
            have RR3 := Lib.hid rr3
            clear rr3
            by_cases hz : nth a q = 0
            · have HE1 : Hid (subC (nth a) (nth b) (q + 1) = 1) := by show subC _ _ _ = 1; rw [HC.out, HY.out, if_pos (by omega)]
              have HE2 : Hid (nth Z q = 4294967295) := by have e := HS.out; rw [HE1.out, HY.out, HC1.out] at e; show nth Z q = _; omega
              rw [hz] at c1
              go_wp2
              go_roundw
              case rel =>
                refine ⟨q + 1, by omega, by omega, by go_num, by rw [HE1.out]; try rfl, ?_, grown_trans gr2 (grown_set _ _ _ _)⟩
                have e := RR3.out
                rw [HE2.out] at e
                exact e
              case measure => simp [intOf]; omega
            · have HE1 : Hid (subC (nth a) (nth b) (q + 1) = 0) := by show subC _ _ _ = 0; rw [HC.out, HY.out, if_neg (by omega)]
              have HE2 : Hid (nth Z q = nth a q - 1) := by have e := HS.out; rw [HE1.out, HY.out, HC1.out] at e; show nth Z q = _; omega
              have hz' : 1 ≤ nth a q := by omega
              have t2 : (((nth a q : Nat) : Int) != 0) = true := by rw [bne_iff_ne]; omega
              go_wp2
              go_roundw
              case rel =>
                refine ⟨q + 1, by omega, by omega, by go_num, by rw [HE1.out]; try rfl, ?_, grown_trans gr2 (grown_set _ _ _ _)⟩
                have e := RR3.out
                have hv : Value.int .u32 (((nth a q : Nat) : Int) - 1) = .int .u32 (nth Z q) := int_eq (by rw [HE2.out]; omega)
                rw [hv]
                exact e
              case measure => simp [intOf]; omega
          · obtain rfl : q = n := by omega
            have e := Hend.out
            rw [Hn.out, HC1.out] at e
            omega

theorem Sub_any {v u : Value} {xs ys : List Nat} {w : World} (hx : Sl w .u32 v xs) (hy : Sl w .u32 u ys) (ax : All 4294967296 xs) (ay : All 4294967296 ys) (hlen : xs.length ≤ 17592186044416) :
    Calls Try.prog 72 #[v, u] w (Subbed w (val 4294967296 xs) (val 4294967296 ys)) := by
  rcases Nat.lt_or_ge (val 4294967296 xs) (val 4294967296 ys) with h | h
  · exact Sub_less hx hy ax ay h
  · exact Sub_more hx hy ax ay h hlen

end Go.Proofs.Ytmmmpdpgkjcohaa
