/- Package limb: addTo, Sum, Add: the sum of rows of limbs. -/
import Derived.Test.YtmmmpdpgkjcohaaLimbB
namespace Go.Proofs.Ytmmmpdpgkjcohaa
open Go.RowKit

/-- What addTo hands back. -/
def Added (B g : Nat) (w : World) (xs ys : List Nat) (en : Ending) (w' : World) : Prop :=
  ∃ g' cap' zs, en = .returned (.slice (some ⟨g', 0, none⟩) zs.length cap') ∧ Own w' 65 .u32 B (.slice (some ⟨g', 0, none⟩) zs.length cap') zs ∧ All 4294967296 zs ∧
    val 4294967296 zs = val 4294967296 xs + val 4294967296 ys ∧ xs.length ≤ zs.length ∧ zs.length ≤ xs.length + 1 ∧ (zs.length = xs.length ∨ 4294967296 ^ (zs.length - 1) ≤ val 4294967296 zs) ∧ w.grownBy w' (some g)

theorem slice_len {p q : Option Addr} {n m cap cap' : Nat} (h : Value.slice p n cap = .slice q m cap') : n = m := by cases h; rfl

/-- The end without a carry. -/
theorem added_done {B g cap k : Nat} {w wr : World} {c : Nat → Value} {xs ys : List Nat} (hB : B ≤ g) (hle : xs.length ≤ cap) (hcap : cap ≤ 9223372036854775807)
    (hx : ∀ j, j < xs.length → c j = .int .u32 (nth xs j)) (hk : k ≤ xs.length) (hky : ys.length ≤ k) (ax : All 4294967296 xs)
    (h0 : addC 4294967296 (nth xs) (nth ys) k = 0)
    (hr : RowF wr 65 g cap (lay c 0 k .u32 (pre (addD 4294967296 (nth xs) (nth ys)) xs.length))) (hg : w.grownBy wr (some g)) :
    Added B g w xs ys (.returned (.slice (some ⟨g, 0, none⟩) xs.length cap)) wr := by
  have hz : ∀ d, k + d ≤ xs.length → addC 4294967296 (nth xs) (nth ys) (k + d) = 0 := by
    intro d
    induction d with
    | zero => intro _; exact h0
    | succ d ih =>
      intro hd
      rw [← Nat.add_assoc]
      simp only [addC]
      rw [ih (by omega), nth_out ys (by omega)]
      have := nth_lt (by omega) ax (k + d)
      omega
  have hd : ∀ j, k ≤ j → j < xs.length → addD 4294967296 (nth xs) (nth ys) j = nth xs j := by
    intro j h1 h2
    have e := hz (j - k) (by omega)
    rw [show k + (j - k) = j by omega] at e
    have := nth_lt (by omega) ax j
    simp only [addD]
    rw [e, nth_out ys (by omega)]
    omega
  have hl : (pre (addD 4294967296 (nth xs) (nth ys)) xs.length).length = xs.length := pre_len _ _
  refine ⟨g, cap, pre (addD 4294967296 (nth xs) (nth ys)) xs.length, by rw [hl], .inr ⟨g, cap, _, rfl, hB, hr, by omega, hcap, fun j hj => ?_⟩, pre_all (fun j _ => addD_lt (by omega) _ _ _), ?_, by omega, by omega, .inl hl, hg⟩
  · rw [hl] at hj
    rw [pre_nth _ hj]
    by_cases hjk : j < k
    · rw [lay_in0 _ _ _ hjk, pre_nth _ hj]
    · rw [lay_out _ _ _ (by omega), hx j hj, hd j (by omega) hj]
  · have e := add_val 4294967296 (nth xs) (nth ys) xs.length
    have e0 := hz (xs.length - k) (by omega)
    rw [show k + (xs.length - k) = xs.length by omega] at e0
    rw [e0, val_pre_more _ xs (Nat.le_refl _), val_pre_more _ ys (by omega)] at e
    simpa using e

/-- The end with a carry. -/
theorem added_more {B g : Nat} {w wr w' : World} {v' : Value} {xs ys : List Nat} (hky : ys.length ≤ xs.length)
    (h0 : addC 4294967296 (nth xs) (nth ys) xs.length = 1) (hg : w.grownBy wr (some g)) (hg' : wr.grownBy w' (some g))
    (ho : Own w' 65 .u32 B v' (pre (addD 4294967296 (nth xs) (nth ys)) xs.length ++ [1])) :
    Added B g w xs ys (.returned v') w' := by
  have hl : (pre (addD 4294967296 (nth xs) (nth ys)) xs.length ++ [1]).length = xs.length + 1 := by simp [pre_len]
  rcases id ho with ⟨_, h⟩ | ⟨g', cap', c, rfl, _⟩
  · simp at h
  refine ⟨g', cap', _, rfl, ho, (pre_all (fun j _ => addD_lt (by omega) _ _ _)).app (All.cons (by omega) (All.nil _)), ?_, by omega, by omega, .inr ?_, grown_trans hg hg'⟩
  · have e := add_val 4294967296 (nth xs) (nth ys) xs.length
    rw [h0, val_pre_more _ xs (Nat.le_refl _), val_pre_more _ ys (by omega)] at e
    rw [val_snoc, pre_len]
    exact e
  · rw [hl, val_snoc, pre_len, Nat.add_sub_cancel]
    omega

set_option maxHeartbeats 1000000 in
theorem addTo_any (g cap B : Nat) (vy : Value) (xs ys : List Nat) (w : World) (hown : Own w 65 .u32 B (.slice (some ⟨g, 0, none⟩) xs.length cap) xs) (hy : Sl w .u32 vy ys) (hne : ys ≠ [] → vy.ownBlock ≠ some g)
    (hl : ys.length ≤ xs.length) (ax : All 4294967296 xs) (ay : All 4294967296 ys) (hlen : xs.length < 17592186044416) (hB : B ≤ w.heap.size) :
    Calls Try.prog 81 #[.slice (some ⟨g, 0, none⟩) xs.length cap, vy] w (Added B g w xs ys) := by
  obtain ⟨p, capy, rfl, h1, h2, h3⟩ := hy
  rcases hown with ⟨h, _⟩ | ⟨g', cap', c, e, hBg, hr, hle, hcap, hx⟩
  · cases h
  simp only [Value.slice.injEq, Option.some.injEq, Addr.mk.injEq, and_true] at e
  obtain ⟨rfl, -, rfl⟩ := e
  obtain ⟨i0, hi, hz0, hz1, hz2⟩ := info_parts Try.infoU
  obtain ⟨n, hn⟩ : ∃ n, xs.length = n := ⟨_, rfl⟩
  obtain ⟨m, hm⟩ : ∃ m, ys.length = m := ⟨_, rfl⟩
  obtain ⟨Z, hZ⟩ : ∃ Z, pre (addD 4294967296 (nth xs) (nth ys)) xs.length = Z := ⟨_, rfl⟩
  have hZn : ∀ j, j < n → nth Z j = addD 4294967296 (nth xs) (nth ys) j := fun j hj => by rw [← hZ]; exact pre_nth _ (by omega)
  have hZl : Z.length = n := by rw [← hZ, pre_len, hn]
  have cz : ∀ k, k ≤ n → addC 4294967296 (nth xs) (nth ys) k ≤ 1 := fun k _ => addC_le (nth_lt (by omega) ax) (nth_lt (by omega) ay) k
  rw [hn] at hl hlen hle hx ⊢
  rw [hm] at hl h1 ⊢
  have Hn := Lib.hid hn
  have Hm := Lib.hid hm
  have HZ := Lib.hid hZ
  have HZn := Lib.hid hZn
  have HZl := Lib.hid hZl
  have Hx := Lib.hid hx
  have Ax := Lib.hid ax
  have Ay := Lib.hid ay
  have H3 := Lib.hid h3
  have Cz := Lib.hid cz
  have Hne := Lib.hid hne
  clear hn hm hZ hZn hZl hx ax ay h3 cz hne
  go_enter Try.func81, Try.ntmps81
  go_wp2_with fail
  go_loopw [5, 11] (fun cv i wr => ∃ k : Nat, k ≤ m ∧ i = .int .i64 k ∧ cv = .int .u64 (addC 4294967296 (nth xs) (nth ys) k) ∧ RowF wr 65 g cap (lay c 0 k .u32 Z) ∧ w.grownBy wr (some g)) (fun _ i _ => (m - (intOf i).toNat))
  case atStart => exact ⟨0, by omega, rfl, rfl, by rw [lay_zero]; exact hr, grown_refl _ _⟩
  case round =>
    obtain ⟨k, hk, rfl, rfl, rr, gr⟩ := hrel
    have hcr := Cz.out k (by omega)
    by_cases hlt : k < m
    · have c1 : wr.cell? ⟨g, k, none⟩ = some (.int .u32 (nth xs k)) := by
        rw [rr.cell (by omega), lay_out _ _ _ (by omega), Hx.out k (by omega)]
      rcases H3.out with h3 | ⟨b, off, rfl, hbl, hy⟩
      · have := Hm.out; rw [h3] at this; simp at this; omega
      have c2 : wr.cell? ⟨b, off + k, none⟩ = some (.int .u32 (nth ys k)) := by
        rw [World.cell?_of_block (w := w) (gr.block b hbl (by simpa [Value.ownBlock] using Hne.out (fun h => by have := Hm.out; rw [h] at this; simp at this; omega))), hy k (by rw [Hm.out]; omega)]
      clear hy
      have f1 : wr.frozen? ⟨g, k, none⟩ = false := rr.frozen k
      have b1 : nth xs k < 4294967296 := nth_lt (by omega) Ax.out k
      have b2 : nth ys k < 4294967296 := nth_lt (by omega) Ay.out k
      have i1 : (k : Int) < (n : Int) := by omega
      have HC := Lib.hid (show addC 4294967296 (nth xs) (nth ys) (k + 1) = (addC 4294967296 (nth xs) (nth ys) k + (nth xs k + nth ys k)) / 4294967296 from rfl)
      have HD := Lib.hid (show nth Z k = (addC 4294967296 (nth xs) (nth ys) k + (nth xs k + nth ys k)) % 4294967296 from HZn.out k (by omega))
      generalize addC 4294967296 (nth xs) (nth ys) k = cr at *
      go_wp2
      go_roundw
      case rel =>
        refine ⟨k + 1, by omega, by go_num, int_eq (by rw [HC.out]; omega), ?_, grown_trans gr (grown_set _ _ _ _)⟩
        rw [← lay_step0 c k .u32 Z rfl]
        have hv : Value.int .u32 (((cr : Int) + ((nth xs k : Nat) + (nth ys k : Nat) : Int)) % 4294967296) = .int .u32 (nth Z k) := int_eq (by rw [HD.out]; omega)
        rw [← hv]
        exact rr.set k _
      case measure => simp [intOf]; omega
    · obtain rfl : k = m := by omega
      generalize hcr0 : addC 4294967296 (nth xs) (nth ys) k = cr at *
      have HC0 := Lib.hid hcr0
      clear hcr0
      go_wp2
      go_loopw [8, 5] (fun i cv wr2 => ∃ q : Nat, k ≤ q ∧ q ≤ n ∧ i = .int .i64 q ∧ cv = .int .u64 (addC 4294967296 (nth xs) (nth ys) q) ∧ RowF wr2 65 g cap (lay c 0 q .u32 Z) ∧ w.grownBy wr2 (some g)) (fun i _ _ => (n - (intOf i).toNat))
      case atStart => exact ⟨k, Nat.le_refl _, by omega, rfl, by rw [HC0.out], rr, gr⟩
      case round =>
        obtain ⟨q, hq, hqn, rfl, rfl, rr2, gr2⟩ := hrel
        have hcq := Cz.out q hqn
        have HC := Lib.hid (show addC 4294967296 (nth xs) (nth ys) (q + 1) = (addC 4294967296 (nth xs) (nth ys) q + (nth xs q + nth ys q)) / 4294967296 from rfl)
        generalize hcr1 : addC 4294967296 (nth xs) (nth ys) q = cq at *
        have HC1 := Lib.hid hcr1
        clear hcr1
        by_cases h0 : cq = 0
        · obtain rfl := h0
          go_wp2
          go_ret
          have e := HZ.out
          rw [← e] at rr2
          have hn := Hn.out
          have hm := Hm.out
          subst hn
          exact added_done hBg hle hcap Hx.out hqn (by omega) Ax.out HC1.out rr2 gr2
        · obtain rfl : cq = 1 := by omega
          clear h0
          by_cases hlt2 : q < n
          · have c1 : wr.cell? ⟨g, q, none⟩ = some (.int .u32 (nth xs q)) := by
              rw [rr2.cell (by omega), lay_out _ _ _ (by omega), Hx.out q (by omega)]
            have f1 : wr.frozen? ⟨g, q, none⟩ = false := rr2.frozen q
            have b1 : nth xs q < 4294967296 := nth_lt (by omega) Ax.out q
            have i1 : (q : Int) < (n : Int) := by omega
            have t1 : ((q : Int) == (n : Int)) = false := by rw [beq_eq_false_iff_ne]; omega
            have y0 : nth ys q = 0 := nth_out ys (by rw [Hm.out]; omega)
            have HD := Lib.hid (show nth Z q = (1 + nth xs q) % 4294967296 by rw [HZn.out q hlt2, addD, HC1.out, y0]; rfl)
            have HC' := Lib.hid (show addC 4294967296 (nth xs) (nth ys) (q + 1) = (1 + nth xs q) / 4294967296 by rw [HC.out, y0]; rfl)
            clear y0
            have rr3 : RowF (wr.setCell ⟨g, q, none⟩ (.int .u32 (nth Z q))) 65 g cap (lay c 0 (q + 1) .u32 Z) := by
              rw [← lay_step0 c q .u32 Z rfl]
              exact rr2.set q _
            have RR3 := Lib.hid rr3
            clear rr3
            by_cases hz : nth xs q = 4294967295
            · have HZ0 : Hid (nth Z q = 0) := by show nth Z q = 0; rw [HD.out, hz]
              have HZ1 : Hid (addC 4294967296 (nth xs) (nth ys) (q + 1) = 1) := by show addC _ _ _ _ = 1; rw [HC'.out, hz]
              rw [hz] at c1
              go_wp2
              go_roundw
              case rel =>
                refine ⟨q + 1, by omega, by omega, by go_num, by rw [HZ1.out], ?_, grown_trans gr2 (grown_set _ _ _ _)⟩
                have e := RR3.out
                rw [HZ0.out] at e
                exact e
              case measure => simp [intOf]; omega
            · have hz' : nth xs q < 4294967295 := by omega
              have HZ0 : Hid (nth Z q = nth xs q + 1) := by show nth Z q = _; rw [HD.out]; omega
              have HZ1 : Hid (addC 4294967296 (nth xs) (nth ys) (q + 1) = 0) := by show addC _ _ _ _ = 0; rw [HC'.out]; omega
              have t2 : (((nth xs q : Nat) : Int) + 1 != 0) = true := by rw [bne_iff_ne]; omega
              go_wp2
              go_roundw
              case rel =>
                refine ⟨q + 1, by omega, by omega, by go_num, by rw [HZ1.out]; rfl, ?_, grown_trans gr2 (grown_set _ _ _ _)⟩
                have e := RR3.out
                rw [HZ0.out] at e
                exact e
              case measure => simp [intOf]; omega
          · obtain rfl : q = n := by omega
            have hown2 : Own wr 65 .u32 B (.slice (some ⟨g, 0, none⟩) q cap) Z := by
              have hzl := HZl.out
              exact .inr ⟨g, cap, _, by rw [hzl], hBg, rr2, by omega, hcap, fun j hj => lay_in0 _ _ _ (by omega)⟩
            have hs2 := gr2.size
            have Hl2 := Lib.hid (show Z.length < 17592186044416 by rw [HZl.out]; omega)
            go_wp2_with (at_builtin; refine wp_append1 rfl _ _ 22 rfl 65 i0 (.int .u32 0) .u32 Try.underlying22 hi hz0 hz1 (by omega) rfl B (.slice (some ⟨g, 0, none⟩) q cap) Z 1 rfl (hown2.grown (grown_alloc _ _ none) (.inl rfl)) wr.heap.size rfl ?c1 Hl2.out (by simp; omega) ?_; (case c1 => exact (World.cell?_alloc_at _ _ _ _ rfl).trans rfl); intro v' w3 ho3 g3)
            go_ret
            have e := HZ.out
            have hn := Hn.out
            have hm := Hm.out
            subst e
            subst hn
            exact added_more (by omega) HC1.out gr2 (grown_trans (grown_alloc _ _ _) g3) ho3
end Go.Proofs.Ytmmmpdpgkjcohaa
