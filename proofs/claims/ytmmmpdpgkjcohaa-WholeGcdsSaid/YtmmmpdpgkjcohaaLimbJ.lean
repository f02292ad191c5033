/- Package limb: Mul; division by one limb. -/
import Derived.Test.YtmmmpdpgkjcohaaLimbI
namespace Go.Proofs.Ytmmmpdpgkjcohaa
open Go.RowKit

theorem Mul_nilA {p q : Option Addr} {capx capy : Nat} {xs ys b : List Nat} {w : World} (hx : Sl w .u32 (.slice p xs.length capx) xs) (hy : Sl w .u32 (.slice q ys.length capy) ys)
    (ha : trim xs = []) (hb : trim ys = b) :
    Calls Try.prog 57 #[.slice p xs.length capx, .slice q ys.length capy] w (Made 65 .u32 w []) := by
  have Hx := Lib.hid hx
  have Hy := Lib.hid hy
  have Ha := Lib.hid ha
  have Hb := Lib.hid hb
  clear hx hy ha hb
  go_enter Try.func57, Try.ntmps57
  go_wp2_with fail
  refine (trim_to Hx.out Ha.out).mono ?_
  rintro e w' ⟨rfl, rfl⟩
  go_wp2_with fail
  refine (trim_to Hy.out Hb.out).mono ?_
  rintro e w' ⟨rfl, rfl⟩
  go_wp2_with fail
  go_ret
  exact ⟨_, rfl, Own.nil _ _ _ _, grown_refl _ _⟩
theorem Mul_nilB {p q : Option Addr} {capx capy : Nat} {xs ys a : List Nat} {w : World} (hx : Sl w .u32 (.slice p xs.length capx) xs) (hy : Sl w .u32 (.slice q ys.length capy) ys)
    (ha : trim xs = a) (hb : trim ys = []) (ha0 : a ≠ []) :
    Calls Try.prog 57 #[.slice p xs.length capx, .slice q ys.length capy] w (Made 65 .u32 w []) := by
  have la : a.length ≠ 0 := fun h => ha0 (List.eq_nil_of_length_eq_zero h)
  have tb : (((a.length : Nat) : Int) == 0) = false := by rw [beq_eq_false_iff_ne]; omega
  have Hx := Lib.hid hx
  have Hy := Lib.hid hy
  have Ha := Lib.hid ha
  have Hb := Lib.hid hb
  clear hx hy ha hb ha0
  go_enter Try.func57, Try.ntmps57
  go_wp2_with fail
  refine (trim_to Hx.out Ha.out).mono ?_
  rintro e w' ⟨rfl, rfl⟩
  go_wp2_with fail
  refine (trim_to Hy.out Hb.out).mono ?_
  rintro e w' ⟨rfl, rfl⟩
  go_wp2_with fail
  go_ret
  exact ⟨_, rfl, Own.nil _ _ _ _, grown_refl _ _⟩

/-- Mul of two rows of limbs. -/
theorem Mul_any {v u : Value} {xs ys : List Nat} {w : World} (hx : Sl w .u32 v xs) (hy : Sl w .u32 u ys) (ax : All 4294967296 xs) (ay : All 4294967296 ys) (lx : xs.length ≤ 4398046511104) (ly : ys.length ≤ 4398046511104) :
    Calls Try.prog 57 #[v, u] w (Made 65 .u32 w (dig 4294967296 (val 4294967296 xs * val 4294967296 ys))) := by
  obtain ⟨p, cap, rfl, -⟩ := id hx
  obtain ⟨q, capy, rfl, -⟩ := id hy
  have tx : (trim xs).length ≤ xs.length := by rw [trim_len]; exact trimTo_le _ _
  have ty : (trim ys).length ≤ ys.length := by rw [trim_len]; exact trimTo_le _ _
  rw [← trim_val (b := 4294967296) xs, ← trim_val (b := 4294967296) ys]
  by_cases ha : trim xs = []
  · rw [ha, val, Nat.zero_mul]
    exact Mul_nilA hx hy ha rfl
  · by_cases hb : trim ys = []
    · rw [hb, val, Nat.mul_zero]
      exact Mul_nilB hx hy rfl hb ha
    · exact Mul_some hx hy rfl rfl ha hb ax ay (by omega)

/-- What a division hands back. -/
def Divided (w : World) (q r : Nat) (en : Ending) (w' : World) : Prop :=
  ∃ v u, en = .returned (.tuple #[v, u]) ∧ Own w' 65 .u32 w.heap.size v (dig 4294967296 q) ∧ Own w' 65 .u32 w.heap.size u (dig 4294967296 r) ∧ v.ownBlock ≠ u.ownBlock ∧ w.grownBy w' none

set_option maxHeartbeats 1000000 in
theorem divShort_any {v : Value} {xs : List Nat} {w : World} (d : Nat) (hx : Sl w .u32 v xs) (ax : All 4294967296 xs) (hd0 : 0 < d) (hd : d < 4294967296) (hlen : xs.length ≤ 8796093022208) :
    Calls Try.prog 89 #[v, .int .u32 d] w (Divided w (val 4294967296 xs / d) (val 4294967296 xs % d)) := by
  obtain ⟨p, cap, rfl, h1, h2, h3⟩ := id hx
  obtain ⟨i0, hi, hz0, hz1, hz2⟩ := info_parts Try.infoU
  have Hx := Lib.hid hx
  have Ax := Lib.hid ax
  have H3 := Lib.hid h3
  clear hx ax h3
  obtain ⟨n, hn⟩ : ∃ n, xs.length = n := ⟨_, rfl⟩
  rw [hn] at hlen h1 ⊢
  have Hn := Lib.hid hn
  clear hn
  go_enter Try.func89, Try.ntmps89
  go_wp2_with (at_make; refine wp_make rfl _ _ 22 rfl 65 i0 (.int .u32 0) Try.underlying22 hi hz0 hz1 (by omega) rfl _ _ _ _ n n rfl rfl (by omega) (by omega) (Nat.le_refl _) (by omega) ?_; intro w1 r1 g1 s1; have R1 := Lib.hid r1; have G1 := Lib.hid g1; clear r1 g1)
  go_loopw [6, 7] (fun cv i wr => ∃ (k r : Nat) (q : Int) (Z : List Nat), k ≤ n ∧ i = .int .i64 q ∧ q = (k : Int) - 1 ∧ cv = .int .u32 r ∧ r < d ∧ Z.length = n ∧ All 4294967296 Z ∧
      val 4294967296 (xs.drop k) = val 4294967296 (Z.drop k) * d + r ∧ RowF wr 65 w.heap.size n (fun j => .int .u32 (nth Z j)) ∧ w.grownBy wr none ∧ w.heap.size < wr.heap.size) (fun _ i _ => (intOf i + 1).toNat)
  case atStart =>
    refine ⟨n, 0, _, List.replicate n 0, by omega, rfl, rfl, rfl, hd0, by simp, All.rep (by omega) _, ?_, R1.out.congr fun j hj => by simp [nth, hj], G1.out, by omega⟩
    rw [List.drop_of_length_le (by rw [Hn.out]; omega), List.drop_replicate, val_rep0]
    simp [val]
  case round =>
    obtain ⟨k, r, q, Z, hk, rfl, hq, rfl, hr, zl, za, hv, rr, gr, sr⟩ := hrel
    have Zl := Lib.hid zl
    have Za := Lib.hid za
    have Hv := Lib.hid hv
    have Gr := Lib.hid gr
    cases k with
    | zero =>
      obtain rfl : q = -1 := by omega
      have ho : Own wr 65 .u32 w.heap.size (.slice (some ⟨w.heap.size, 0, none⟩) n n) Z :=
        .inr ⟨w.heap.size, _, _, by rw [zl], Nat.le_refl _, rr, by omega, by omega, fun j _ => rfl⟩
      have Ho := Lib.hid ho
      clear ho zl za hv gr rr hq
      go_wp2_with fail
      refine (trim_any _ _ _ Z _ Ho.out.sl).mono ?_
      rintro e w'' ⟨rfl, rfl⟩
      go_wp2_with fail
      have hro : Own (wr.alloc (.cells #[.int .u32 r] 65)) 65 .u32 wr.heap.size (.slice (some ⟨wr.heap.size, 0, none⟩) 1 1) [r] := by
        refine .inr ⟨wr.heap.size, 1, fun _ => .int .u32 r, rfl, Nat.le_refl _, ?_, Nat.le_refl _, by omega, fun j hj => ?_⟩
        · exact RowF.made wr #[.int .u32 r] 65 _ (fun j hj => by
            have : j = 0 := by simpa using hj
            subst this; rfl)
        · have : j = 0 := by simpa using hj
          subst this; rfl
      have Hro := Lib.hid hro
      clear hro
      refine (trim_any _ _ _ [r] _ Hro.out.sl).mono ?_
      rintro e w'' ⟨rfl, rfl⟩
      go_wp2_with fail
      go_ret2
      have hv := Hv.out
      simp only [List.drop_zero] at hv
      have e1 : val 4294967296 xs / d = val 4294967296 Z := by
        rw [hv, Nat.mul_comm, Nat.mul_add_div hd0, Nat.div_eq_of_lt hr]; omega
      have e2 : val 4294967296 xs % d = r := by
        rw [hv, Nat.mul_comm, Nat.mul_add_mod, Nat.mod_eq_of_lt hr]
      have e3 : val 4294967296 [r] = r := by simp [val]
      refine ⟨_, _, rfl, ?_, ?_, ?_, grown_trans Gr.out (grown_alloc _ _ _)⟩
      · rw [e1, ← trim_eq (by omega) Za.out]
        exact Ho.out.trim.grown (grown_alloc _ _ none) (.inl rfl)
      · rw [e2, ← e3, ← trim_eq (b := 4294967296) (by omega) (All.cons (by omega) (All.nil _))]
        exact Hro.out.trim.mono (by omega)
      · simp [Value.ownBlock]; omega
    | succ k =>
      obtain rfl : q = (k : Int) := by omega
      rcases H3.out with h3 | ⟨b, off, rfl, hbl, hy⟩
      · have := Hn.out; rw [h3] at this; simp at this; omega
      have c1 : wr.cell? ⟨b, off + k, none⟩ = some (.int .u32 (nth xs k)) := by
        rw [World.cell?_of_block (w := w) (gr.block b hbl (by simp)), hy k (by rw [Hn.out]; omega)]
      have b1 : nth xs k < 4294967296 := Ax.out.nth (by rw [Hn.out]; omega)
      have f1 : wr.frozen? ⟨w.heap.size, k, none⟩ = false := rr.frozen _
      have c2 : wr.cell? ⟨w.heap.size, k, none⟩ = some (.int .u32 (nth Z k)) := rr.cell (by omega)
      have i1 : (k : Int) < (n : Int) := by omega
      have Rr := Lib.hid rr
      clear hy zl za hv gr rr hq
      go_wp2_with fail
      refine (Div32_any r (nth xs k) d _ hr b1 hd).mono ?_
      rintro e w' ⟨rfl, dn, rfl⟩
      have hqd : (r * 4294967296 + nth xs k) / d < 4294967296 := by rw [Nat.div_lt_iff_lt_mul hd0]; omega
      have hrd : (r * 4294967296 + nth xs k) % d < d := Nat.mod_lt _ hd0
      have hqr := Nat.div_add_mod (r * 4294967296 + nth xs k) d
      generalize (r * 4294967296 + nth xs k) / d = qd at *
      generalize (r * 4294967296 + nth xs k) % d = rd at *
      have Hqr := Lib.hid hqr
      clear hqr
      go_wp2_with fail
      go_roundw
      case rel =>
        refine ⟨k, rd, _, Z.set k qd, by omega, rfl, rfl, rfl, hrd, by rw [List.length_set, Zl.out], Za.out.set hqd k, ?_, ?_, grown_new (grown_trans Gr.out (grown_drewN _ _ _)) (grown_set _ _ _ _) (Nat.le_refl _), by simpa using sr⟩
        · rw [set_drop_val _ (by rw [Zl.out]; omega), val_drop_step _ _ (by rw [Hn.out]; omega), Hv.out]
          have := Hqr.out
          rw [Nat.add_mul, Nat.mul_add, Nat.mul_assoc, Nat.mul_comm qd d]
          omega
        · refine (RowF.set (w := wr.drewN dn) Rr.out k _).congr fun j hj => ?_
          by_cases hjk : j = k
          · subst hjk
            rw [upd_at, nth_set_at _ (by rw [Zl.out]; omega)]
          · rw [upd_ne _ _ hjk, nth_set_ne _ _ hjk]
      case measure => simp [intOf]

end Go.Proofs.Ytmmmpdpgkjcohaa
