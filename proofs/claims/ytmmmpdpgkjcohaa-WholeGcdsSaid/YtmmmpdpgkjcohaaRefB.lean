/- Package orreryref01: small, FromN, ToN. -/
import Derived.Test.YtmmmpdpgkjcohaaRefA
namespace Go.Proofs.Ytmmmpdpgkjcohaa
open Go.RowKit

theorem dec_len {X k : Nat} (h : Bd X k) : (dig 10000 X).length ≤ 3 * k := by
  refine dig_len_le (by omega) _ X ?_
  rw [Nat.pow_mul]
  exact Nat.lt_of_lt_of_le h (Nat.pow_le_pow_left (by omega) k)
/-- What small hands back. -/
def SmallOut (w : World) (X : Nat) (e : Ending) (w' : World) : Prop :=
  ∃ v, e = .returned (.tuple #[v, .int .i64 ((X % 65536 : Nat) : Int)]) ∧ Own w' 3 .i64 w.heap.size v (dig 10000 (X / 65536)) ∧ w.grownBy w' none

set_option maxHeartbeats 1000000 in
theorem Rsmall {v : Value} {xs : List Nat} {w : World} (hx : Sl w .i64 v xs) (ax : All 10000 xs) (hlen : xs.length ≤ 8796093022208) :
    Calls Try.prog 83 #[v, .int .i64 65536] w (SmallOut w (val 10000 xs)) := by
  obtain ⟨p, cap, rfl, h1, h2, h3⟩ := id hx
  obtain ⟨i0, hi, hz0, hz1, hz2⟩ := info_parts Try.infoI
  have Hx := Lib.hid hx
  have Ax := Lib.hid ax
  have H3 := Lib.hid h3
  clear hx ax h3
  obtain ⟨n, hn⟩ : ∃ n, xs.length = n := ⟨_, rfl⟩
  rw [hn] at hlen h1 ⊢
  have Hn := Lib.hid hn
  clear hn
  go_enter Try.func83, Try.ntmps83
  go_wp2_with (at_make; refine wp_make rfl _ _ 26 rfl 3 i0 (.int .i64 0) Try.underlying26 hi hz0 hz1 (by omega) rfl _ _ _ _ n n rfl rfl (by omega) (by omega) (Nat.le_refl _) (by omega) ?_; intro w1 r1 g1 s1; have R1 := Lib.hid r1; have G1 := Lib.hid g1; clear r1 g1)
  go_loopw [7, 8] (fun cv i wr => ∃ (k r : Nat) (q : Int) (Z : List Nat), k ≤ n ∧ i = .int .i64 q ∧ q = (k : Int) - 1 ∧ cv = .int .i64 r ∧ r < 65536 ∧ Z.length = n ∧ All 10000 Z ∧
      val 10000 (xs.drop k) = val 10000 (Z.drop k) * 65536 + r ∧ RowF wr 3 w.heap.size n (fun j => .int .i64 (nth Z j)) ∧ w.grownBy wr none ∧ w.heap.size < wr.heap.size) (fun _ i _ => (intOf i + 1).toNat)
  case atStart =>
    refine ⟨n, 0, _, List.replicate n 0, by omega, rfl, rfl, rfl, by omega, by simp, All.rep (by omega) _, ?_, R1.out.congr fun j hj => by simp [nth, hj], G1.out, by omega⟩
    rw [List.drop_of_length_le (by rw [Hn.out]; omega), List.drop_replicate, val_rep0]
    simp [val]
  case round =>
    obtain ⟨k, r, q, Z, hk, rfl, hq, rfl, hr, zl, za, hv, rr, gr, sr⟩ := hrel
    have Zl := Lib.hid zl
    have Za := Lib.hid za
    have Hv := Lib.hid hv
    have Gr := Lib.hid gr
    cases k with
    | zero =>
      obtain rfl : q = -1 := by omega
      have ho : Own wr 3 .i64 w.heap.size (.slice (some ⟨w.heap.size, 0, none⟩) n n) Z :=
        .inr ⟨w.heap.size, _, _, by rw [zl], Nat.le_refl _, rr, by omega, by omega, fun j _ => rfl⟩
      have Ho := Lib.hid ho
      clear ho zl za hv gr rr hq
      go_wp2_with fail
      refine (cut_any _ _ _ Z _ Ho.out.sl).mono ?_
      rintro e w'' ⟨rfl, rfl⟩
      go_wp2_with fail
      go_ret2
      have hv := Hv.out
      simp only [List.drop_zero] at hv
      have e1 : val 10000 xs / 65536 = val 10000 Z := by omega
      have e2 : val 10000 xs % 65536 = r := by omega
      refine ⟨_, by rw [e2]; rfl, ?_, Gr.out⟩
      rw [e1, ← trim_eq (by omega) Za.out]
      exact Ho.out.trim
    | succ k =>
      obtain rfl : q = (k : Int) := by omega
      rcases H3.out with h3 | ⟨b, off, rfl, hbl, hy⟩
      · have := Hn.out; rw [h3] at this; simp at this; omega
      have c1 : wr.cell? ⟨b, off + k, none⟩ = some (.int .i64 (nth xs k)) := by
        rw [World.cell?_of_block (w := w) (gr.block b hbl (by simp)), hy k (by rw [Hn.out]; omega)]
      have b1 : nth xs k < 10000 := Ax.out.nth (by rw [Hn.out]; omega)
      have f1 : wr.frozen? ⟨w.heap.size, k, none⟩ = false := rr.frozen _
      have c2 : wr.cell? ⟨w.heap.size, k, none⟩ = some (.int .i64 (nth Z k)) := rr.cell (by omega)
      have i1 : (k : Int) < (n : Int) := by omega
      have Rr := Lib.hid rr
      clear hy zl za hv gr rr hq
      go_wp2
      go_roundw
      case rel =>
        refine ⟨k, (r * 10000 + nth xs k) % 65536, _, Z.set k ((r * 10000 + nth xs k) / 65536), by omega, rfl, rfl, int_eq (by omega), by omega, by rw [List.length_set, Zl.out], Za.out.set (by omega) k, ?_, ?_, grown_new Gr.out (grown_set _ _ _ _) (Nat.le_refl _), by simpa using sr⟩
        · rw [set_drop_val _ (by rw [Zl.out]; omega), val_drop_step _ _ (by rw [Hn.out]; omega), Hv.out]
          omega
        · refine (RowF.set Rr.out k _).congr fun j hj => ?_
          by_cases hjk : j = k
          · subst hjk
            rw [upd_at, nth_set_at _ (by rw [Zl.out]; omega)]
            exact int_eq (by omega)
          · rw [upd_ne _ _ hjk, nth_set_ne _ _ hjk]
      case measure => simp [intOf]

theorem RmulAdd_n {v : Value} {X : Nat} {w : World} (m c0 : Nat) (hx : Sl w .i64 v (dig 10000 X)) (hm : m ≤ 65536) (hc : c0 ≤ 65536) (hlen : (dig 10000 X).length ≤ 8796093022208) :
    Calls Try.prog 66 #[v, .int .i64 m, .int .i64 c0] w (DecM w (X * m + c0)) := by
  have := RmulAdd m c0 hx (dig_all (by omega) _) hm hc hlen
  rwa [val_dig (by omega)] at this
theorem Rsmall_n {v : Value} {X : Nat} {w : World} (hx : Sl w .i64 v (dig 10000 X)) (hlen : (dig 10000 X).length ≤ 8796093022208) :
    Calls Try.prog 83 #[v, .int .i64 65536] w (SmallOut w X) := by
  have := Rsmall hx (dig_all (by omega) _) hlen
  rwa [val_dig (by omega)] at this
/-- A number times a small one, and a small one more: not many digits more. -/
theorem dec_grow {X m c0 k : Nat} (h : (dig 10000 X).length ≤ k) (hm : m ≤ 65536) (hc : c0 ≤ 65535) : (dig 10000 (X * m + c0)).length ≤ k + 2 := by
  have h1 := dig_lt_pow (b := 10000) (by omega) X
  have h2 := Nat.lt_of_lt_of_le h1 (Nat.pow_le_pow_right (n := 10000) (by omega) h)
  refine dig_len_le (by omega) _ _ ?_
  rw [Nat.pow_add]
  generalize 10000 ^ k = T at *
  have : X * m ≤ X * 65536 := Nat.mul_le_mul_left _ hm
  omega

set_option maxHeartbeats 1000000 in
theorem RFrom {v : Value} {xs : List Nat} {w : World} (hx : Sl w .u32 v xs) (ax : All 4294967296 xs) (hlen : xs.length ≤ 1000000) :
    Calls Try.prog 75 #[v] w (DecM w (val 4294967296 xs)) := by
  obtain ⟨p, cap, rfl, h1, h2, h3⟩ := id hx
  have Hx := Lib.hid hx
  have Ax := Lib.hid ax
  have H3 := Lib.hid h3
  clear hx ax h3
  obtain ⟨n, hn⟩ : ∃ n, xs.length = n := ⟨_, rfl⟩
  rw [hn] at hlen h1 ⊢
  have Hn := Lib.hid hn
  clear hn
  go_enter Try.func75, Try.ntmps75
  go_wp2_with fail
  go_loopw [3, 4] (fun o i wr => ∃ (k : Nat) (q : Int), k ≤ n ∧ i = .int .i64 q ∧ q = (k : Int) - 1 ∧ Own wr 3 .i64 w.heap.size o (dig 10000 (val 4294967296 (xs.drop k))) ∧ w.grownBy wr none) (fun _ i _ => (intOf i + 1).toNat)
  case atStart =>
    refine ⟨n, _, by omega, rfl, rfl, ?_, grown_refl _ _⟩
    rw [List.drop_of_length_le (by rw [Hn.out]; omega)]
    exact Own.nil _ _ _ _
  case round =>
    obtain ⟨k, q, hk, rfl, hq, ho, gr⟩ := hrel
    have Gr := Lib.hid gr
    have Ho := Lib.hid ho
    cases k with
    | zero =>
      obtain rfl : q = -1 := by omega
      clear ho gr hq
      go_wp2_with fail
      go_ret
      exact ⟨_, rfl, by simpa using Ho.out, Gr.out⟩
    | succ k =>
      obtain rfl : q = (k : Int) := by omega
      rcases H3.out with h3 | ⟨b, off, rfl, hbl, hy⟩
      · have := Hn.out; rw [h3] at this; simp at this; omega
      have c1 : wr.cell? ⟨b, off + k, none⟩ = some (.int .u32 (nth xs k)) := by
        rw [World.cell?_of_block (w := w) (gr.block b hbl (by simp)), hy k (by rw [Hn.out]; omega)]
      have b1 : nth xs k < 4294967296 := Ax.out.nth (by rw [Hn.out]; omega)
      have i1 : (k : Int) < (n : Int) := by omega
      have Hy := Lib.hid hy
      obtain ⟨X, hX⟩ : ∃ X, val 4294967296 (xs.drop (k + 1)) = X := ⟨_, rfl⟩
      have HX := Lib.hid hX
      rw [hX] at Ho
      have Hln := Lib.hid (show (dig 10000 X).length ≤ 3 * n by
        rw [← hX]
        exact dec_len (Bd.of (Ax.out.drop (k + 1)) (by rw [List.length_drop, Hn.out]; omega)))
      clear hX ho gr hy hq
      go_wp2_with fail
      refine (RmulAdd_n 65536 (nth xs k / 65536) Ho.out.sl (by omega) (by omega) (by have := Hln.out; omega)).mono ?_
      rintro e w2 ⟨v2, rfl, ho2, g2⟩
      have Ho2 := Lib.hid ho2
      have G2 := Lib.hid (grown_trans Gr.out g2)
      have sg := Gr.out.size
      have Hl2 := Lib.hid (dec_grow (m := 65536) (c0 := nth xs k / 65536) Hln.out (by omega) (by omega))
      have c2 : w2.cell? ⟨b, off + k, none⟩ = some (.int .u32 (nth xs k)) := by
        rw [World.cell?_of_block (w := w) (G2.out.block b hbl (by simp)), Hy.out k (by rw [Hn.out]; omega)]
      clear ho2 g2 c1
      go_wp2_with fail
      refine (RmulAdd_n 65536 (nth xs k % 65536) Ho2.out.sl (by omega) (by omega) (by have := Hl2.out; omega)).mono ?_
      rintro e w3 ⟨v3, rfl, ho3, g3⟩
      have Ho3 := Lib.hid ho3
      have G3 := Lib.hid (grown_trans G2.out g3)
      have sg2 := G2.out.size
      clear ho3 g3
      go_wp2_with fail
      go_roundw
      case rel =>
        refine ⟨k, _, by omega, rfl, rfl, ?_, G3.out⟩
        rw [val_drop_step _ _ (by rw [Hn.out]; omega), HX.out]
        have e : (X * 65536 + nth xs k / 65536) * 65536 + nth xs k % 65536 = nth xs k + 4294967296 * X := by omega
        rw [← e]
        exact Ho3.out.mono (by omega)
      case measure => simp [intOf]


end Go.Proofs.Ytmmmpdpgkjcohaa
