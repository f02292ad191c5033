/- Package orreryref01: SubN. -/
import Derived.Test.YtmmmpdpgkjcohaaRefE
namespace Go.Proofs.Ytmmmpdpgkjcohaa
open Go.RowKit

set_option maxHeartbeats 2000000 in
set_option maxRecDepth 100000 in
theorem RSub {v u : Value} {X Y : Nat} {w : World} (hx : Sl w .i64 v (dig 10000 X)) (hy : Sl w .i64 u (dig 10000 Y)) (lx : (dig 10000 X).length ≤ 4000000) (hle : Y ≤ X) :
    Calls Try.prog 55 #[v, u] w (DecM w (X - Y)) := by
  have ax := Lib.hid (dig_all (b := 10000) (by omega) X)
  have ay := Lib.hid (dig_all (b := 10000) (by omega) Y)
  have hml := dig_len_mono (b := 10000) (by omega) hle
  have Fin := Lib.hid (show val 10000 (pre (subD 10000 (nth (dig 10000 X)) (nth (dig 10000 Y))) (dig 10000 X).length) = X - Y by
    have := sub_all ax.out ay.out (by omega) hml (by rw [val_dig (by omega), val_dig (by omega)]; exact hle)
    rwa [val_dig (by omega), val_dig (by omega)] at this)
  obtain ⟨p, cap, rfl, h1, h2, h3⟩ := id hx
  obtain ⟨q, capy, rfl, h1', h2', h3'⟩ := id hy
  obtain ⟨i0, hi, hz0, hz1, hz2⟩ := info_parts Try.infoI
  generalize hdx : dig 10000 X = xs at *
  generalize hdy : dig 10000 Y = ys at *
  obtain ⟨n, hn⟩ : ∃ n, xs.length = n := ⟨_, rfl⟩
  obtain ⟨m, hm⟩ : ∃ m, ys.length = m := ⟨_, rfl⟩
  rw [hn] at lx h1 Fin hml ⊢
  rw [hm] at hml h1' ⊢
  obtain ⟨Z, hZ⟩ : ∃ Z, pre (subD 10000 (nth xs) (nth ys)) n = Z := ⟨_, rfl⟩
  have zl : Z.length = n := by rw [← hZ, pre_len]
  have hZn : ∀ j, j < n → nth Z j = subD 10000 (nth xs) (nth ys) j := fun j hj => by rw [← hZ]; exact pre_nth _ hj
  have za : All 10000 Z := by rw [← hZ]; exact pre_all (fun j _ => subD_lt (nth_lt (by omega) ax.out) j)
  rw [hZ] at Fin
  have H3 := Lib.hid h3
  have H3' := Lib.hid h3'
  have Hn := Lib.hid hn
  have Hm := Lib.hid hm
  have Zl := Lib.hid zl
  have HZn := Lib.hid hZn
  have Za := Lib.hid za
  clear h3 h3' hn hm hx hy hdx hdy h2 h2' hZ zl hZn za hle
  go_enter Try.func55, Try.ntmps55
  go_wp2_with (at_make; refine wp_make rfl _ _ 26 rfl 3 i0 (.int .i64 0) Try.underlying26 hi hz0 hz1 (by omega) rfl _ _ _ _ n n rfl rfl (by omega) (by omega) (Nat.le_refl _) (by omega) ?_; intro w1 r1 g1 s1; have R1 := Lib.hid r1; have G1 := Lib.hid g1; clear r1 g1)
  go_loopw [6, 14] (fun cv i wr => ∃ k : Nat, k ≤ n ∧ i = .int .i64 k ∧ cv = .int .i64 (subC (nth xs) (nth ys) k : Nat) ∧ RowF wr 3 w.heap.size n (lay (fun _ => .int .i64 0) 0 k .i64 Z) ∧ w.grownBy wr none ∧ w.heap.size < wr.heap.size) (fun _ i _ => (n - (intOf i).toNat))
  case atStart => exact ⟨0, by omega, rfl, rfl, by rw [lay_zero]; exact R1.out, G1.out, by omega⟩
  case round =>
    obtain ⟨k, hk, rfl, rfl, rr, gr, sr⟩ := hrel
    have Gr := Lib.hid gr
    by_cases hx : k < n
    · rcases H3.out with h3 | ⟨b, off, rfl, hbl, hyx⟩
      · have := Hn.out; rw [h3] at this; simp at this; omega
      have c1 : wr.cell? ⟨b, off + k, none⟩ = some (.int .i64 (nth xs k)) := by
        rw [World.cell?_of_block (w := w) (gr.block b hbl (by simp)), hyx k (by rw [Hn.out]; omega)]
      clear hyx
      have f1 : wr.frozen? ⟨w.heap.size, k, none⟩ = false := rr.frozen _
      have c3 : wr.cell? ⟨w.heap.size, k, none⟩ = some (.int .i64 0) := by rw [rr.cell (by omega), lay_out _ _ _ (by omega)]
      have b1 : nth xs k < 10000 := nth_lt (by omega) ax.out k
      have b2 : nth ys k < 10000 := nth_lt (by omega) ay.out k
      have i1 : (k : Int) < (n : Int) := by omega
      have HS := Lib.hid (show nth Z k + (nth ys k + subC (nth xs) (nth ys) k) = nth xs k + 10000 * subC (nth xs) (nth ys) (k + 1) by
        rw [HZn.out k hx]; exact subD_spec (nth_lt (by omega) ay.out) k)
      have HC := Lib.hid (show subC (nth xs) (nth ys) (k + 1) = if nth xs k < nth ys k + subC (nth xs) (nth ys) k then 1 else 0 from rfl)
      have hcr := subC_le (nth xs) (nth ys) k
      generalize subC (nth xs) (nth ys) k = cr at *
      have RR := Lib.hid rr
      clear rr gr
      by_cases hy : k < m
      · rcases H3'.out with h3' | ⟨b', off', rfl, hbl', hyy⟩
        · have := Hm.out; rw [h3'] at this; simp at this; omega
        have c2 : wr.cell? ⟨b', off' + k, none⟩ = some (.int .i64 (nth ys k)) := by
          rw [World.cell?_of_block (w := w) (Gr.out.block b' hbl' (by simp)), hyy k (by rw [Hm.out]; omega)]
        clear hyy
        by_cases hs : nth xs k < nth ys k + cr
        · have hs2 : ((nth xs k : Nat) : Int) - (cr : Int) - ((nth ys k : Nat) : Int) < 0 := by omega
          have HC1 : Hid (subC (nth xs) (nth ys) (k + 1) = 1) := by show _ = _; rw [HC.out]; exact if_pos hs
          have HE : Hid (nth Z k + (nth ys k + cr) = nth xs k + 10000 * 1) := by show _ = _; rw [HS.out, HC1.out]
          go_wp2
          go_roundw
          case rel =>
            refine ⟨k + 1, by omega, by go_num, by rw [HC1.out]; try rfl, ?_, grown_new Gr.out (grown_set _ _ _ _) (Nat.le_refl _), by simpa using sr⟩
            rw [← lay_step0 _ k .i64 Z rfl]
            refine (RR.out.set k _).congr fun j _ => ?_
            congr 1
            exact int_eq (by have := HE.out; omega)
          case measure => simp [intOf]; omega
        · have hs2 : ¬ ((nth xs k : Nat) : Int) - (cr : Int) - ((nth ys k : Nat) : Int) < 0 := by omega
          have HC1 : Hid (subC (nth xs) (nth ys) (k + 1) = 0) := by show _ = _; rw [HC.out]; exact if_neg hs
          have HE : Hid (nth Z k + (nth ys k + cr) = nth xs k + 10000 * 0) := by show _ = _; rw [HS.out, HC1.out]
          go_wp2
          go_roundw
          case rel =>
            refine ⟨k + 1, by omega, by go_num, by rw [HC1.out]; try rfl, ?_, grown_new Gr.out (grown_set _ _ _ _) (Nat.le_refl _), by simpa using sr⟩
            rw [← lay_step0 _ k .i64 Z rfl]
            refine (RR.out.set k _).congr fun j _ => ?_
            congr 1
            exact int_eq (by have := HE.out; omega)
          case measure => simp [intOf]; omega
      · have y1 : nth ys k = 0 := nth_out ys (by rw [Hm.out]; omega)
        by_cases hs : nth xs k < nth ys k + cr
        · have hs2 : ((nth xs k : Nat) : Int) - (cr : Int) < 0 := by omega
          have HC1 : Hid (subC (nth xs) (nth ys) (k + 1) = 1) := by show _ = _; rw [HC.out]; exact if_pos hs
          have HE : Hid (nth Z k + (nth ys k + cr) = nth xs k + 10000 * 1) := by show _ = _; rw [HS.out, HC1.out]
          go_wp2
          go_roundw
          case rel =>
            refine ⟨k + 1, by omega, by go_num, by rw [HC1.out]; try rfl, ?_, grown_new Gr.out (grown_set _ _ _ _) (Nat.le_refl _), by simpa using sr⟩
            rw [← lay_step0 _ k .i64 Z rfl]
            refine (RR.out.set k _).congr fun j _ => ?_
            congr 1
            exact int_eq (by have := HE.out; omega)
          case measure => simp [intOf]; omega
        · have hs2 : ¬ ((nth xs k : Nat) : Int) - (cr : Int) < 0 := by omega
          have HC1 : Hid (subC (nth xs) (nth ys) (k + 1) = 0) := by show _ = _; rw [HC.out]; exact if_neg hs
          have HE : Hid (nth Z k + (nth ys k + cr) = nth xs k + 10000 * 0) := by show _ = _; rw [HS.out, HC1.out]
          go_wp2
          go_roundw
          case rel =>
            refine ⟨k + 1, by omega, by go_num, by rw [HC1.out]; try rfl, ?_, grown_new Gr.out (grown_set _ _ _ _) (Nat.le_refl _), by simpa using sr⟩
            rw [← lay_step0 _ k .i64 Z rfl]
            refine (RR.out.set k _).congr fun j _ => ?_
            congr 1
            exact int_eq (by have := HE.out; omega)
          case measure => simp [intOf]; omega
    · obtain rfl : k = n := by omega
      have ho : Own wr 3 .i64 w.heap.size (.slice (some ⟨w.heap.size, 0, none⟩) k k) Z :=
        .inr ⟨w.heap.size, _, _, by rw [Zl.out], Nat.le_refl _, rr, by rw [Zl.out]; omega, by omega, fun j hj => lay_in0 _ _ _ (by rw [Zl.out] at hj; exact hj)⟩
      have Ho := Lib.hid ho
      clear ho rr gr
      go_wp2_with fail
      refine (cut_any _ _ _ Z _ Ho.out.sl).mono ?_
      rintro e w'' ⟨rfl, rfl⟩
      go_wp2_with fail
      go_ret
      refine ⟨_, rfl, ?_, Gr.out⟩
      rw [← Fin.out, ← trim_eq (by omega) Za.out]
      exact Ho.out.trim

end Go.Proofs.Ytmmmpdpgkjcohaa
