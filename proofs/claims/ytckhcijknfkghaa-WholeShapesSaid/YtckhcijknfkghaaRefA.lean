/- Package orreryref01: cut, mulAdd, small. Package orreryref01: small, FromN, ToN. Package orreryref01: ToN. Package orreryref01: CmpN. Package orreryref01: AddN. Package orreryref01: SubN. Package orreryref01: MulN. Package orreryref01: DivN. Package orreryref01: PowN, BitsN. -/
import Derived.Test.YtckhcijknfkghaaLimbL
namespace Go.Proofs.Ytckhcijknfkghaa
open Go.RowKit

theorem cut_some (b off n cap : Nat) (xs : List Nat) (w : World) (hn : n ≤ xs.length) (hcap : n ≤ cap) (hm : cap ≤ 9223372036854775807)
    (hc : ∀ j, j < xs.length → w.cell? ⟨b, off + j, none⟩ = some (.int .i64 (nth xs j))) :
    Calls Try.prog 64 #[.slice (some ⟨b, off, none⟩) n cap] w fun e w' => e = .returned (.slice (some ⟨b, off, none⟩) (trimTo xs n) cap) ∧ w = w' := by
  go_enter Try.func64, Try.ntmps64
  go_wp2
  go_loop [3] (fun v => ∃ k : Nat, k ≤ n ∧ v = .int .i64 k ∧ trimTo xs k = trimTo xs n) (fun v => (intOf v).toNat)
  case atStart => exact ⟨n, by omega, rfl, rfl⟩
  case round =>
    obtain ⟨k, hk, rfl, ht⟩ := hrel
    have HT := Lib.hid ht
    clear ht
    cases k with
    | zero =>
      go_wp2
      go_ret
      exact ⟨by rw [← HT.out]; rfl, rfl⟩
    | succ k =>
      have hcell := hc k (by omega)
      clear hc
      have hkc : k ≤ cap := by omega
      by_cases h0 : nth xs k = 0
      · have hb := bool_eq0 h0
        have HZ := Lib.hid h0
        clear h0
        go_wp2
        go_round
        case rel => exact ⟨k, by omega, by go_num, by rw [← HT.out]; simp [trimTo, HZ.out]⟩
        case measure => simp [intOf]; try omega
      · have hb := bool_ne0 h0
        go_wp2
        go_ret
        exact ⟨by rw [← HT.out]; simp [trimTo, h0], rfl⟩

set_option maxHeartbeats 400000 in
theorem cut_empty (p : Option Addr) (cap : Nat) (w : World) :
    Calls Try.prog 64 #[.slice p 0 cap] w fun e w' => e = .returned (.slice p 0 cap) ∧ w = w' := by
  go_enter Try.func64, Try.ntmps64
  go_wp2
  refine wp_loop_rounds 1 ?_
  rw [rounds_succ]
  go_wp2
  go_ret
  exact ⟨rfl, rfl⟩

theorem cut_any (p : Option Addr) (n cap : Nat) (xs : List Nat) (w : World) (h : Sl w .i64 (.slice p n cap) xs) :
    Calls Try.prog 64 #[.slice p n cap] w fun e w' => e = .returned (.slice p (trim xs).length cap) ∧ w = w' := by
  obtain ⟨p', cap', e, h1, h2, h3⟩ := h
  simp only [Value.slice.injEq] at e
  obtain ⟨rfl, rfl, rfl⟩ := e
  rw [trim_len]
  rcases h3 with rfl | ⟨b, off, rfl, h4, h5⟩
  · exact cut_empty _ _ _
  · exact cut_some b off xs.length cap xs w (Nat.le_refl _) h1 h2 h5



theorem cut_to {p : Option Addr} {n cap : Nat} {xs a : List Nat} {w : World} (h : Sl w .i64 (.slice p n cap) xs) (ha : trim xs = a) :
    Calls Try.prog 64 #[.slice p n cap] w fun e w' => e = .returned (.slice p a.length cap) ∧ w = w' := by
  subst ha
  exact cut_any p n cap xs w h

theorem Own.slice {w : World} {e : TypeId} {k : IntKind} {B : Nat} {v : Value} {xs : List Nat} (h : Own w e k B v xs) : ∃ p cap, v = .slice p xs.length cap := by
  obtain ⟨p, cap, rfl, -⟩ := h.sl
  exact ⟨p, cap, rfl⟩
/-- The number X in digits to the base 10000. -/
def DecM (w : World) (X : Nat) (e : Ending) (w' : World) : Prop := Made 3 .i64 w (dig 10000 X) e w'

theorem muladd_val {xs : List Nat} {m c0 k : Nat} (hk : xs.length ≤ k) (h0 : chC 10000 (fun j => nth xs j * m) c0 k = 0) : val 10000 (pre (chD 10000 (fun j => nth xs j * m) c0) k) = val 10000 xs * m + c0 := by
  have := ch_val 10000 (fun j => nth xs j * m) c0 k
  rw [h0, val_mul, val_pre_more _ _ hk] at this
  omega

set_option maxHeartbeats 1000000 in
theorem RmulAdd {v : Value} {xs : List Nat} {w : World} (m c0 : Nat) (hx : Sl w .i64 v xs) (ax : All 10000 xs) (hm : m ≤ 65536) (hc : c0 ≤ 65536) (hlen : xs.length ≤ 8796093022208) :
    Calls Try.prog 51 #[v, .int .i64 m, .int .i64 c0] w (DecM w (val 10000 xs * m + c0)) := by
  obtain ⟨p, cap, rfl, h1, h2, h3⟩ := id hx
  obtain ⟨i0, hi, hz0, hz1, hz2⟩ := info_parts Try.infoI
  obtain ⟨n, hn⟩ : ∃ n, xs.length = n := ⟨_, rfl⟩
  have Cb := Lib.hid (fun k => chC_lt (b := 10000) (m := 65537) (s := fun j => nth xs j * m) (c0 := c0) (fun j => by
    have b1 : nth xs j ≤ 9999 := by have := nth_lt (by omega) ax j; omega
    have := Nat.mul_le_mul b1 hm
    show nth xs j * m + 65537 ≤ _
    omega) (by omega) k)
  rw [hn] at hlen h1 ⊢
  have Hx := Lib.hid hx
  have Ax := Lib.hid ax
  have H3 := Lib.hid h3
  have Hn := Lib.hid hn
  clear hx ax h3 hn
  go_enter Try.func51, Try.ntmps51
  go_wp2_with (at_make; refine wp_make rfl _ _ 26 rfl 3 i0 (.int .i64 0) Try.underlying26 hi hz0 hz1 (by omega) rfl _ _ _ _ 0 (n + 2) rfl rfl (by omega) (by omega) (by omega) (by omega) ?_; intro w1 r1 g1 s1; have R1 := Lib.hid r1; have G1 := Lib.hid g1; clear r1 g1)
  go_loopw [2, 7, 8] (fun cv o i wr => ∃ k : Nat, i = .int .i64 k ∧ cv = .int .i64 (chC 10000 (fun j => nth xs j * m) c0 k : Nat) ∧ k + chC 10000 (fun j => nth xs j * m) c0 k ≤ n + 65537 ∧ Own wr 3 .i64 w.heap.size o (pre (chD 10000 (fun j => nth xs j * m) c0) k) ∧ w.grownBy wr none ∧ w.heap.size < wr.heap.size) (fun cv _ i _ => (n - (intOf i).toNat) * 100000 + (intOf cv).toNat)
  case atStart =>
    refine ⟨0, rfl, rfl, by show 0 + c0 ≤ _; omega, .inr ⟨w.heap.size, n + 2, _, rfl, Nat.le_refl _, R1.out, by simp [pre], by omega, fun j hj => by simp [pre] at hj⟩, G1.out, by omega⟩
  case round =>
    obtain ⟨k, rfl, rfl, hk, ho, gr, sr⟩ := hrel
    have cb := Cb.out k
    have cb' := Cb.out (k + 1)
    have HC := Lib.hid (show chC 10000 (fun j => nth xs j * m) c0 (k + 1) = (chC 10000 (fun j => nth xs j * m) c0 k + nth xs k * m) / 10000 from rfl)
    have HD := Lib.hid (show pre (chD 10000 (fun j => nth xs j * m) c0) (k + 1) = pre (chD 10000 (fun j => nth xs j * m) c0) k ++ [(chC 10000 (fun j => nth xs j * m) c0 k + nth xs k * m) % 10000] from pre_succ _ _)
    obtain ⟨Z, hZ⟩ : ∃ Z, pre (chD 10000 (fun j => nth xs j * m) c0) k = Z := ⟨_, rfl⟩
    have zl : Z.length = k := by rw [← hZ, pre_len]
    rw [hZ] at HD ho
    have HZ := Lib.hid hZ
    have Ho := Lib.hid ho
    have Gr := Lib.hid gr
    have Zl := Lib.hid zl
    obtain ⟨op, ocap, rfl⟩ := ho.slice
    rw [zl] at Ho
    generalize hcr : chC 10000 (fun j => nth xs j * m) c0 k = cr at *
    have Hcr := Lib.hid hcr
    generalize hcs : chC 10000 (fun j => nth xs j * m) c0 (k + 1) = cs at *
    have Hcs := Lib.hid hcs
    clear hZ ho gr hcr hcs
    rw [zl]
    clear zl
    by_cases hlt : k < n
    · rcases H3.out with h3 | ⟨b, off, rfl, hbl, hy⟩
      · have := Hn.out; rw [h3] at this; simp at this; omega
      have c1 : wr.cell? ⟨b, off + k, none⟩ = some (.int .i64 (nth xs k)) := by
        rw [World.cell?_of_block (w := w) (Gr.out.block b hbl (by simp)), hy k (by rw [Hn.out]; omega)]
      clear hy
      have b1 : nth xs k < 10000 := Ax.out.nth (by rw [Hn.out]; omega)
      have b2 : nth xs k * m ≤ 655350000 := by have := Nat.mul_le_mul (show nth xs k ≤ 9999 by omega) hm; omega
      obtain ⟨t, ht⟩ : ∃ t, nth xs k * m = t := ⟨_, rfl⟩
      rw [ht] at HC HD b2
      have ht' : ((nth xs k : Nat) : Int) * (m : Int) = (t : Int) := by rw [← ht, Int.natCast_mul]
      clear ht
      go_wp2_with (at_builtin; refine wp_append1 rfl _ _ 26 rfl 3 i0 (.int .i64 0) .i64 Try.underlying26 hi hz0 hz1 (by omega) rfl w.heap.size (.slice op k ocap) Z ((cr + t) % 10000) rfl (Ho.out.grown (grown_alloc _ _ none) (.inl rfl)) wr.heap.size rfl ?c1 (by rw [Zl.out]; omega) (by simp; omega) ?_; (case c1 => exact (World.cell?_alloc_at _ _ _ _ rfl).trans (by simp)); intro v' w3 ho3 g3; have Ho3 := Lib.hid ho3; have G3 := Lib.hid (grown_own (v := .slice op k ocap) g3 (Ho.out.grown (grown_alloc _ _ none) (.inl rfl)) (grown_trans Gr.out (grown_alloc _ _ _))); have s3 := g3.size; clear ho3 g3)
      go_roundw
      case rel => exact ⟨k + 1, by go_num, int_eq (by rw [Hcs.out, HC.out]; omega), by rw [Hcs.out]; omega, by rw [HD.out]; exact Ho3.out, G3.out, by simp at s3; omega⟩
      case measure =>
        have h := HC.out
        have h2 : (((cr : Int) + (t : Int)) / 10000) = ((cs : Nat) : Int) := by omega
        rw [h2]
        simp only [intOf]
        omega
    · have y0 : nth xs k = 0 := nth_out xs (by rw [Hn.out]; omega)
      rw [y0] at HC HD
      have hC := HC.out
      clear y0
      by_cases hcr : cr = 0
      · subst hcr
        go_wp2_with fail
        refine (cut_any _ _ _ Z _ Ho.out.sl).mono ?_
        rintro e w' ⟨rfl, rfl⟩
        go_wp2_with fail
        go_ret
        have e := muladd_val (m := m) (c0 := c0) (by rw [Hn.out]; omega) Hcr.out
        rw [HZ.out] at e
        have az : All 10000 Z := by rw [← HZ.out]; exact pre_all (fun j _ => chD_lt (by omega) _ _ _)
        refine ⟨_, rfl, ?_, Gr.out⟩
        rw [← e, ← trim_eq (by omega) az]
        exact (Zl.out ▸ Ho.out : Own wr 3 .i64 w.heap.size (.slice op Z.length ocap) Z).trim
      · have hcp : 0 < cr := by omega
        go_wp2_with (at_builtin; refine wp_append1 rfl _ _ 26 rfl 3 i0 (.int .i64 0) .i64 Try.underlying26 hi hz0 hz1 (by omega) rfl w.heap.size (.slice op k ocap) Z (cr % 10000) rfl (Ho.out.grown (grown_alloc _ _ none) (.inl rfl)) wr.heap.size rfl ?c1 (by rw [Zl.out]; omega) (by simp; omega) ?_; (case c1 => exact (World.cell?_alloc_at _ _ _ _ rfl).trans (by simp)); intro v' w3 ho3 g3; have Ho3 := Lib.hid ho3; have G3 := Lib.hid (grown_own (v := .slice op k ocap) g3 (Ho.out.grown (grown_alloc _ _ none) (.inl rfl)) (grown_trans Gr.out (grown_alloc _ _ _))); have s3 := g3.size; clear ho3 g3)
        go_roundw
        case rel => exact ⟨k + 1, by go_num, int_eq (by rw [Hcs.out, HC.out]; omega), by rw [Hcs.out]; omega, by rw [HD.out]; simpa using Ho3.out, G3.out, by simp at s3; omega⟩
        case measure => simp only [intOf]; omega

end Go.Proofs.Ytckhcijknfkghaa

namespace Go.Proofs.Ytckhcijknfkghaa
open Go.RowKit

theorem dec_len {X k : Nat} (h : Bd X k) : (dig 10000 X).length ≤ 3 * k := by
  refine dig_len_le (by omega) _ X ?_
  rw [Nat.pow_mul]
  exact Nat.lt_of_lt_of_le h (Nat.pow_le_pow_left (by omega) k)
/-- What small hands back. -/
def SmallOut (w : World) (X : Nat) (e : Ending) (w' : World) : Prop :=
  ∃ v, e = .returned (.tuple #[v, .int .i64 ((X % 65536 : Nat) : Int)]) ∧ Own w' 3 .i64 w.heap.size v (dig 10000 (X / 65536)) ∧ w.grownBy w' none

set_option maxHeartbeats 1000000 in
theorem Rsmall {v : Value} {xs : List Nat} {w : World} (hx : Sl w .i64 v xs) (ax : All 10000 xs) (hlen : xs.length ≤ 8796093022208) :
    Calls Try.prog 65 #[v, .int .i64 65536] w (SmallOut w (val 10000 xs)) := by
  obtain ⟨p, cap, rfl, h1, h2, h3⟩ := id hx
  obtain ⟨i0, hi, hz0, hz1, hz2⟩ := info_parts Try.infoI
  have Hx := Lib.hid hx
  have Ax := Lib.hid ax
  have H3 := Lib.hid h3
  clear hx ax h3
  obtain ⟨n, hn⟩ : ∃ n, xs.length = n := ⟨_, rfl⟩
  rw [hn] at hlen h1 ⊢
  have Hn := Lib.hid hn
  clear hn
  go_enter Try.func65, Try.ntmps65
  go_wp2_with (at_make; refine wp_make rfl _ _ 26 rfl 3 i0 (.int .i64 0) Try.underlying26 hi hz0 hz1 (by omega) rfl _ _ _ _ n n rfl rfl (by omega) (by omega) (Nat.le_refl _) (by omega) ?_; intro w1 r1 g1 s1; have R1 := Lib.hid r1; have G1 := Lib.hid g1; clear r1 g1)
  go_loopw [7, 8] (fun cv i wr => ∃ (k r : Nat) (q : Int) (Z : List Nat), k ≤ n ∧ i = .int .i64 q ∧ q = (k : Int) - 1 ∧ cv = .int .i64 r ∧ r < 65536 ∧ Z.length = n ∧ All 10000 Z ∧
      val 10000 (xs.drop k) = val 10000 (Z.drop k) * 65536 + r ∧ RowF wr 3 w.heap.size n (fun j => .int .i64 (nth Z j)) ∧ w.grownBy wr none ∧ w.heap.size < wr.heap.size) (fun _ i _ => (intOf i + 1).toNat)
  case atStart =>
    refine ⟨n, 0, _, List.replicate n 0, by omega, rfl, rfl, rfl, by omega, by simp, All.rep (by omega) _, ?_, R1.out.congr fun j hj => by simp [nth, hj], G1.out, by omega⟩
    rw [List.drop_of_length_le (by rw [Hn.out]; omega), List.drop_replicate, val_rep0]
    simp [val]
  case round =>
    obtain ⟨k, r, q, Z, hk, rfl, hq, rfl, hr, zl, za, hv, rr, gr, sr⟩ := hrel
    have Zl := Lib.hid zl
    have Za := Lib.hid za
    have Hv := Lib.hid hv
    have Gr := Lib.hid gr
    cases k with
    | zero =>
      obtain rfl : q = -1 := by omega
      have ho : Own wr 3 .i64 w.heap.size (.slice (some ⟨w.heap.size, 0, none⟩) n n) Z :=
        .inr ⟨w.heap.size, _, _, by rw [zl], Nat.le_refl _, rr, by omega, by omega, fun j _ => rfl⟩
      have Ho := Lib.hid ho
      clear ho zl za hv gr rr hq
      go_wp2_with fail
      refine (cut_any _ _ _ Z _ Ho.out.sl).mono ?_
      rintro e w'' ⟨rfl, rfl⟩
      go_wp2_with fail
      go_ret2
      have hv := Hv.out
      simp only [List.drop_zero] at hv
      have e1 : val 10000 xs / 65536 = val 10000 Z := by omega
      have e2 : val 10000 xs % 65536 = r := by omega
      refine ⟨_, by rw [e2]; rfl, ?_, Gr.out⟩
      rw [e1, ← trim_eq (by omega) Za.out]
      exact Ho.out.trim
    | succ k =>
      obtain rfl : q = (k : Int) := by omega
      rcases H3.out with h3 | ⟨b, off, rfl, hbl, hy⟩
      · have := Hn.out; rw [h3] at this; simp at this; omega
      have c1 : wr.cell? ⟨b, off + k, none⟩ = some (.int .i64 (nth xs k)) := by
        rw [World.cell?_of_block (w := w) (gr.block b hbl (by simp)), hy k (by rw [Hn.out]; omega)]
      have b1 : nth xs k < 10000 := Ax.out.nth (by rw [Hn.out]; omega)
      have f1 : wr.frozen? ⟨w.heap.size, k, none⟩ = false := rr.frozen _
      have c2 : wr.cell? ⟨w.heap.size, k, none⟩ = some (.int .i64 (nth Z k)) := rr.cell (by omega)
      have i1 : (k : Int) < (n : Int) := by omega
      have Rr := Lib.hid rr
      clear hy zl za hv gr rr hq
      go_wp2
      go_roundw
      case rel =>
        refine ⟨k, (r * 10000 + nth xs k) % 65536, _, Z.set k ((r * 10000 + nth xs k) / 65536), by omega, rfl, rfl, int_eq (by omega), by omega, by rw [List.length_set, Zl.out], Za.out.set (by omega) k, ?_, ?_, grown_new Gr.out (grown_set _ _ _ _) (Nat.le_refl _), by simpa using sr⟩
        · rw [set_drop_val _ (by rw [Zl.out]; omega), val_drop_step _ _ (by rw [Hn.out]; omega), Hv.out]
          omega
        · refine (RowF.set Rr.out k _).congr fun j hj => ?_
          by_cases hjk : j = k
          · subst hjk
            rw [upd_at, nth_set_at _ (by rw [Zl.out]; omega)]
            exact int_eq (by omega)
          · rw [upd_ne _ _ hjk, nth_set_ne _ _ hjk]
      case measure => simp [intOf]

theorem RmulAdd_n {v : Value} {X : Nat} {w : World} (m c0 : Nat) (hx : Sl w .i64 v (dig 10000 X)) (hm : m ≤ 65536) (hc : c0 ≤ 65536) (hlen : (dig 10000 X).length ≤ 8796093022208) :
    Calls Try.prog 51 #[v, .int .i64 m, .int .i64 c0] w (DecM w (X * m + c0)) := by
  have := RmulAdd m c0 hx (dig_all (by omega) _) hm hc hlen
  rwa [val_dig (by omega)] at this
theorem Rsmall_n {v : Value} {X : Nat} {w : World} (hx : Sl w .i64 v (dig 10000 X)) (hlen : (dig 10000 X).length ≤ 8796093022208) :
    Calls Try.prog 65 #[v, .int .i64 65536] w (SmallOut w X) := by
  have := Rsmall hx (dig_all (by omega) _) hlen
  rwa [val_dig (by omega)] at this
/-- A number times a small one, and a small one more: not many digits more. -/
theorem dec_grow {X m c0 k : Nat} (h : (dig 10000 X).length ≤ k) (hm : m ≤ 65536) (hc : c0 ≤ 65535) : (dig 10000 (X * m + c0)).length ≤ k + 2 := by
  have h1 := dig_lt_pow (b := 10000) (by omega) X
  have h2 := Nat.lt_of_lt_of_le h1 (Nat.pow_le_pow_right (n := 10000) (by omega) h)
  refine dig_len_le (by omega) _ _ ?_
  rw [Nat.pow_add]
  generalize 10000 ^ k = T at *
  have : X * m ≤ X * 65536 := Nat.mul_le_mul_left _ hm
  omega

set_option maxHeartbeats 1000000 in
theorem RFrom {v : Value} {xs : List Nat} {w : World} (hx : Sl w .u32 v xs) (ax : All 4294967296 xs) (hlen : xs.length ≤ 1000000) :
    Calls Try.prog 34 #[v] w (DecM w (val 4294967296 xs)) := by
  obtain ⟨p, cap, rfl, h1, h2, h3⟩ := id hx
  have Hx := Lib.hid hx
  have Ax := Lib.hid ax
  have H3 := Lib.hid h3
  clear hx ax h3
  obtain ⟨n, hn⟩ : ∃ n, xs.length = n := ⟨_, rfl⟩
  rw [hn] at hlen h1 ⊢
  have Hn := Lib.hid hn
  clear hn
  go_enter Try.func34, Try.ntmps34
  go_wp2_with fail
  go_loopw [3, 4] (fun o i wr => ∃ (k : Nat) (q : Int), k ≤ n ∧ i = .int .i64 q ∧ q = (k : Int) - 1 ∧ Own wr 3 .i64 w.heap.size o (dig 10000 (val 4294967296 (xs.drop k))) ∧ w.grownBy wr none) (fun _ i _ => (intOf i + 1).toNat)
  case atStart =>
    refine ⟨n, _, by omega, rfl, rfl, ?_, grown_refl _ _⟩
    rw [List.drop_of_length_le (by rw [Hn.out]; omega)]
    exact Own.nil _ _ _ _
  case round =>
    obtain ⟨k, q, hk, rfl, hq, ho, gr⟩ := hrel
    have Gr := Lib.hid gr
    have Ho := Lib.hid ho
    cases k with
    | zero =>
      obtain rfl : q = -1 := by omega
      clear ho gr hq
      go_wp2_with fail
      go_ret
      exact ⟨_, rfl, by simpa using Ho.out, Gr.out⟩
    | succ k =>
      obtain rfl : q = (k : Int) := by omega
      rcases H3.out with h3 | ⟨b, off, rfl, hbl, hy⟩
      · have := Hn.out; rw [h3] at this; simp at this; omega
      have c1 : wr.cell? ⟨b, off + k, none⟩ = some (.int .u32 (nth xs k)) := by
        rw [World.cell?_of_block (w := w) (gr.block b hbl (by simp)), hy k (by rw [Hn.out]; omega)]
      have b1 : nth xs k < 4294967296 := Ax.out.nth (by rw [Hn.out]; omega)
      have i1 : (k : Int) < (n : Int) := by omega
      have Hy := Lib.hid hy
      obtain ⟨X, hX⟩ : ∃ X, val 4294967296 (xs.drop (k + 1)) = X := ⟨_, rfl⟩
      have HX := Lib.hid hX
      rw [hX] at Ho
      have Hln := Lib.hid (show (dig 10000 X).length ≤ 3 * n by
        rw [← hX]
        exact dec_len (Bd.of (Ax.out.drop (k + 1)) (by rw [List.length_drop, Hn.out]; omega)))
      clear hX ho gr hy hq
      go_wp2_with fail
      refine (RmulAdd_n 65536 (nth xs k / 65536) Ho.out.sl (by omega) (by omega) (by have := Hln.out; omega)).mono ?_
      rintro e w2 ⟨v2, rfl, ho2, g2⟩
      have Ho2 := Lib.hid ho2
      have G2 := Lib.hid (grown_trans Gr.out g2)
      have sg := Gr.out.size
      have Hl2 := Lib.hid (dec_grow (m := 65536) (c0 := nth xs k / 65536) Hln.out (by omega) (by omega))
      have c2 : w2.cell? ⟨b, off + k, none⟩ = some (.int .u32 (nth xs k)) := by
        rw [World.cell?_of_block (w := w) (G2.out.block b hbl (by simp)), Hy.out k (by rw [Hn.out]; omega)]
      clear ho2 g2 c1
      go_wp2_with fail
      refine (RmulAdd_n 65536 (nth xs k % 65536) Ho2.out.sl (by omega) (by omega) (by have := Hl2.out; omega)).mono ?_
      rintro e w3 ⟨v3, rfl, ho3, g3⟩
      have Ho3 := Lib.hid ho3
      have G3 := Lib.hid (grown_trans G2.out g3)
      have sg2 := G2.out.size
      clear ho3 g3
      go_wp2_with fail
      go_roundw
      case rel =>
        refine ⟨k, _, by omega, rfl, rfl, ?_, G3.out⟩
        rw [val_drop_step _ _ (by rw [Hn.out]; omega), HX.out]
        have e : (X * 65536 + nth xs k / 65536) * 65536 + nth xs k % 65536 = nth xs k + 4294967296 * X := by omega
        rw [← e]
        exact Ho3.out.mono (by omega)
      case measure => simp [intOf]


end Go.Proofs.Ytckhcijknfkghaa

namespace Go.Proofs.Ytckhcijknfkghaa
open Go.RowKit

theorem own_apart {w w' : World} {e e' : TypeId} {k k' : IntKind} {B B' : Nat} {v u : Value} {xs ys : List Nat} (h : Own w e k B v xs) (h' : Own w' e' k' B' u ys) (hs : w'.heap.size ≤ B) : u.ownBlock = none ∨ v.ownBlock ≠ u.ownBlock := by
  cases hu : u.ownBlock with
  | none => exact .inl rfl
  | some g =>
    right
    intro e
    have := (h.lt g e).1
    have := (h'.lt g hu).2
    omega
theorem dig_len_mono {b m n : Nat} (hb : 2 ≤ b) (h : m ≤ n) : (dig b m).length ≤ (dig b n).length :=
  dig_len_le hb _ _ (Nat.lt_of_le_of_lt h (dig_lt_pow hb n))
theorem dig_len_down {n : Nat} (h : 0 < n) : (dig 10000 (n / 4294967296)).length < (dig 10000 n).length := by
  have h1 := dig_pos (b := 10000) (by omega) h
  have h2 := dig_len_mono (b := 10000) (by omega) (show n / 4294967296 ≤ n / 10000 by omega)
  rw [h1]
  simp
  omega
theorem take_dig {X Y j : Nat} (hY : Y = X / 4294967296 ^ j) (h : 0 < Y) : (dig 4294967296 X).take j ++ [Y % 4294967296] = (dig 4294967296 X).take (j + 1) ∧ j < (dig 4294967296 X).length := by
  have hj : j < (dig 4294967296 X).length := by
    rcases Nat.lt_or_ge j (dig 4294967296 X).length with hh | hh
    · exact hh
    · have h1 := dig_lt_pow (b := 4294967296) (by omega) X
      have h2 : X < 4294967296 ^ j := Nat.lt_of_lt_of_le h1 (Nat.pow_le_pow_right (by omega) hh)
      rw [Nat.div_eq_of_lt h2] at hY
      omega
  refine ⟨?_, hj⟩
  rw [take_step _ hj, dig_nth (by omega), ← hY]
theorem take_dig_end {X j : Nat} (hY : 0 = X / 4294967296 ^ j) : (dig 4294967296 X).take j = dig 4294967296 X := by
  refine List.take_of_length_le (dig_len_le (by omega) _ _ ?_)
  rcases Nat.lt_or_ge X (4294967296 ^ j) with h | h
  · exact h
  · have := Nat.div_pos h (Nat.pow_pos (by omega))
    omega

set_option maxHeartbeats 1000000 in
theorem RTo {v : Value} {X : Nat} {w : World} (hx : Sl w .i64 v (dig 10000 X)) (hlen : (dig 10000 X).length ≤ 4000000) :
    Calls Try.prog 63 #[v] w (Made 32 .u32 w (dig 4294967296 X)) := by
  obtain ⟨p, cap, rfl, -⟩ := id hx
  obtain ⟨i0, hi, hz0, hz1, hz2⟩ := info_parts Try.infoU
  obtain ⟨L, hL⟩ : ∃ L, (dig 10000 X).length = L := ⟨_, rfl⟩
  have Lx := Lib.hid (show (dig 4294967296 X).length ≤ (dig 10000 X).length from dig_len_le (by omega) _ _ (Nat.lt_of_lt_of_le (dig_lt_pow (b := 10000) (by omega) X) (Nat.pow_le_pow_left (by omega) _)))
  rw [hL] at hx hlen Lx ⊢
  have Hx := Lib.hid hx
  have HL := Lib.hid hL
  clear hx hL
  go_enter Try.func63, Try.ntmps63
  go_wp2_with fail
  go_loopw [0, 3] (fun av o wr => ∃ (j Y : Nat), Hid (Y = X / 4294967296 ^ j) ∧ (dig 10000 Y).length ≤ L ∧ Sl wr .i64 av (dig 10000 Y) ∧ Own wr 32 .u32 w.heap.size o ((dig 4294967296 X).take j) ∧ w.grownBy wr none) (fun av _ _ => lenOf av)
  case atStart =>
    refine ⟨0, X, by show X = _; simp, by rw [HL.out]; omega, Hx.out, Own.nil _ _ _ _, grown_refl _ _⟩
  case round =>
    obtain ⟨j, Y, hY, hl, ha, ho, gr⟩ := hrel
    obtain ⟨ap, acap, rfl, -⟩ := id ha
    obtain ⟨op, ocap, rfl⟩ := ho.slice
    have Ha := Lib.hid ha
    have Ho := Lib.hid ho
    have Gr := Lib.hid gr
    by_cases h0 : Y = 0
    · subst h0
      clear ha ho gr
      have e := dig_zero 10000
      rw [e] at Ha ⊢
      rw [take_dig_end hY.out] at Ho ⊢
      clear e
      go_wp2_with fail
      go_ret
      exact ⟨_, rfl, Ho.out, Gr.out⟩
    · have hp : 0 < Y := by omega
      have hl0 : 0 < (dig 10000 Y).length := by
        have := dig_len_zero (b := 10000) (n := Y) (by omega)
        omega
      have Td := Lib.hid (take_dig hY.out hp)
      have Dn := Lib.hid (dig_len_down hp)
      have Dm := Lib.hid (show (dig 10000 (Y / 65536)).length ≤ L from Nat.le_trans (dig_len_mono (by omega) (Nat.div_le_self _ _)) hl)
      obtain ⟨LY, hLY⟩ : ∃ LY, (dig 10000 Y).length = LY := ⟨_, rfl⟩
      have HLY := Lib.hid hLY
      rw [hLY] at hl0 hl Ha ⊢
      obtain ⟨Z, hZ⟩ : ∃ Z, (dig 4294967296 X).take j = Z := ⟨_, rfl⟩
      have HZ := Lib.hid hZ
      rw [hZ] at Ho ⊢
      have zl : Z.length ≤ L := by
        rw [← hZ, List.length_take]
        have := Lx.out
        omega
      clear ha ho gr h0 hLY hZ
      go_wp2_with fail
      refine (Rsmall_n Ha.out (by rw [HLY.out]; omega)).mono ?_
      rintro e w2 ⟨v2, rfl, ho2, g2⟩
      have Ho2 := Lib.hid ho2
      have G2 := Lib.hid (grown_trans Gr.out g2)
      have OO := Lib.hid (Ho.out.grown g2 (.inl rfl))
      clear ho2 g2
      go_wp2_with fail
      refine (Rsmall_n Ho2.out.sl (by have := Dm.out; omega)).mono ?_
      rintro e w3 ⟨v3, rfl, ho3, g3⟩
      have Ho3 := Lib.hid ho3
      have G3 := Lib.hid (grown_trans G2.out g3)
      have OO3 := Lib.hid (OO.out.grown g3 (.inl rfl))
      clear ho3 g3
      have oa := own_apart Ho3.out OO.out (Nat.le_refl _)
      have OB := Lib.hid (show w.heap.size ≤ w3.heap.size from G3.out.size)
      have Oa := Lib.hid oa
      clear oa
      go_wp2_with (at_builtin; refine wp_append1 rfl _ _ 22 rfl 32 i0 (.int .u32 0) .u32 Try.underlying22 hi hz0 hz1 (by omega) rfl w.heap.size (.slice op Z.length ocap) Z (Y % 4294967296) rfl (OO3.out.grown (grown_alloc _ _ none) (.inl rfl)) w3.heap.size rfl ?c1 (by omega) (by have := OB.out; simp; omega) ?_; (case c1 => exact (World.cell?_alloc_at _ _ _ _ rfl).trans (by simp; omega)); intro v' w4 ho4 g4; have Ho4 := Lib.hid ho4; have G4 := Lib.hid (grown_own (v := .slice op Z.length ocap) g4 (OO3.out.grown (grown_alloc _ _ none) (.inl rfl)) (grown_trans G3.out (grown_alloc _ _ _))); have A4 := Lib.hid ((Ho3.out.sl.grown (grown_alloc _ _ none) (.inl rfl)).grown g4 Oa.out); clear ho4 g4)
      go_roundw
      case rel =>
        refine ⟨j + 1, Y / 4294967296, ?_, ?_, ?_, ?_, G4.out⟩
        · show _ = _
          rw [hY.out, Nat.pow_succ, Nat.div_div_eq_div_mul]
        · have := Dn.out; have := HLY.out; omega
        · have e : Y / 65536 / 65536 = Y / 4294967296 := by omega
          rw [← e]; exact A4.out
        · rw [← Td.out.1, HZ.out]; exact Ho4.out
      case measure =>
        obtain ⟨p3, cap3, rfl⟩ := Ho3.out.slice
        have := Dn.out
        have := HLY.out
        have e : Y / 65536 / 65536 = Y / 4294967296 := by omega
        simp only [lenOf, e]
        omega

end Go.Proofs.Ytckhcijknfkghaa

namespace Go.Proofs.Ytckhcijknfkghaa
open Go.RowKit

/-- What CmpN hands back: the world is as it was, but for orders drawn. -/
def CmpOut (w : World) (r : Int) (e : Ending) (w' : World) : Prop := e = .returned (.int .i64 r) ∧ ∃ n, w' = w.drewN n

end Go.Proofs.Ytckhcijknfkghaa

namespace Go.Proofs.Ytckhcijknfkghaa
open Go.RowKit

theorem add_top {X Y k : Nat} (hx : (dig 10000 X).length ≤ k) (hy : (dig 10000 Y).length ≤ k) (h0 : addC 10000 (nth (dig 10000 X)) (nth (dig 10000 Y)) k = 0)
    (hc : k = 0 ∨ k - 1 < (dig 10000 X).length ∨ k - 1 < (dig 10000 Y).length ∨ 0 < addC 10000 (nth (dig 10000 X)) (nth (dig 10000 Y)) (k - 1)) :
    pre (addD 10000 (nth (dig 10000 X)) (nth (dig 10000 Y))) k = dig 10000 (X + Y) := by
  have hv : val 10000 (pre (addD 10000 (nth (dig 10000 X)) (nth (dig 10000 Y))) k) = X + Y := by
    have := add_val 10000 (nth (dig 10000 X)) (nth (dig 10000 Y)) k
    rw [h0, val_pre_more _ _ hx, val_pre_more _ _ hy, val_dig (by omega), val_dig (by omega)] at this
    omega
  have ha : All 10000 (pre (addD 10000 (nth (dig 10000 X)) (nth (dig 10000 Y))) k) := pre_all (fun j _ => addD_lt (by omega) _ _ _)
  have ht : Top (pre (addD 10000 (nth (dig 10000 X)) (nth (dig 10000 Y))) k) := by
    refine top_of_val ha ?_
    rw [hv, pre_len]
    rcases hc with rfl | hc
    · exact .inl rfl
    right
    by_cases h1 : k - 1 < (dig 10000 X).length
    · have := pow_le_dig (b := 10000) (n := X) (by omega) (by omega)
      rw [show k - 1 = (dig 10000 X).length - 1 by omega]
      omega
    by_cases h2 : k - 1 < (dig 10000 Y).length
    · have := pow_le_dig (b := 10000) (n := Y) (by omega) (by omega)
      rw [show k - 1 = (dig 10000 Y).length - 1 by omega]
      omega
    have h3 : 0 < addC 10000 (nth (dig 10000 X)) (nth (dig 10000 Y)) (k - 1) := by
      rcases hc with hc | hc | hc
      · exact absurd hc h1
      · exact absurd hc h2
      · exact hc
    have := add_val 10000 (nth (dig 10000 X)) (nth (dig 10000 Y)) (k - 1)
    rw [val_pre_more _ _ (by omega), val_pre_more _ _ (by omega), val_dig (by omega), val_dig (by omega)] at this
    have h4 := Nat.mul_le_mul_left (10000 ^ (k - 1)) h3
    omega
  rw [← hv, dig_val (by omega) ha ht]

end Go.Proofs.Ytckhcijknfkghaa

namespace Go.Proofs.Ytckhcijknfkghaa
open Go.RowKit
end Go.Proofs.Ytckhcijknfkghaa

namespace Go.Proofs.Ytckhcijknfkghaa
open Go.RowKit

theorem set_val {b k : Nat} {xs : List Nat} (t : Nat) (h : k < xs.length) : val b (xs.set k t) + b ^ k * nth xs k = val b xs + b ^ k * t := by
  have e1 := val_take_drop b xs (k := k) (by omega)
  have e2 := val_take_drop b (xs.set k t) (k := k) (by rw [List.length_set]; omega)
  rw [set_drop_val t h, List.take_set_of_le (Nat.le_refl _)] at e2
  rw [val_drop_step b xs h] at e1
  rw [e1, e2, Nat.mul_add, Nat.mul_add]
  omega
theorem val_take_any (b : Nat) (ys : List Nat) (k : Nat) : val b (ys.take (k + 1)) = val b (ys.take k) + b ^ k * nth ys k := by
  rcases Nat.lt_or_ge k ys.length with h | h
  · exact val_take_step b ys h
  · rw [List.take_of_length_le (by omega), List.take_of_length_le h, nth_out ys h, Nat.mul_zero, Nat.add_zero]
theorem mul_round {R ys : List Nat} {i k c x V0 s : Nat} (hk : i + k < R.length) (h : val 10000 R + 10000 ^ (i + k) * c = V0 + 10000 ^ i * (x * val 10000 (ys.take k))) (hs : nth R (i + k) + c + x * nth ys k = s) :
    val 10000 (R.set (i + k) (s % 10000)) + 10000 ^ (i + (k + 1)) * (s / 10000) = V0 + 10000 ^ i * (x * val 10000 (ys.take (k + 1))) := by
  have e1 := set_val (b := 10000) (s % 10000) hk
  have e2 := Nat.mod_add_div s 10000
  have e3 : 10000 ^ (i + k) * (s % 10000) + 10000 ^ (i + (k + 1)) * (s / 10000) = 10000 ^ (i + k) * s := by
    rw [← Nat.add_assoc, Nat.pow_succ, Nat.mul_assoc, ← Nat.mul_add, e2]
  have e4 : 10000 ^ (i + k) * s = 10000 ^ (i + k) * nth R (i + k) + 10000 ^ (i + k) * c + 10000 ^ (i + k) * (x * nth ys k) := by rw [← hs, Nat.mul_add, Nat.mul_add]
  have e5 : 10000 ^ i * (x * val 10000 (ys.take (k + 1))) = 10000 ^ i * (x * val 10000 (ys.take k)) + 10000 ^ (i + k) * (x * nth ys k) := by
    rw [val_take_any, Nat.mul_add, Nat.mul_add, Nat.pow_add, Nat.mul_assoc, Nat.mul_left_comm x]
  omega
theorem mul_fit {xs ys R : List Nat} {i k c : Nat} (ax : All 10000 xs) (ay : All 10000 ys) (hi : i < xs.length) (hk : ys.length ≤ k) (hc : 0 < c)
    (h : val 10000 R + 10000 ^ (i + k) * c = val 10000 (xs.take i) * val 10000 ys + 10000 ^ i * (nth xs i * val 10000 (ys.take k))) : k = ys.length := by
  rw [List.take_of_length_le hk, ← Nat.mul_assoc, ← Nat.add_mul, ← val_take_step 10000 xs hi] at h
  have h1 := val_lt (ax.take (i + 1))
  rw [List.length_take, Nat.min_eq_left (by omega)] at h1
  have h2 := val_lt ay
  have h3 : val 10000 (xs.take (i + 1)) * val 10000 ys < 10000 ^ (i + 1) * 10000 ^ ys.length := Nat.mul_lt_mul'' h1 h2
  rw [← Nat.pow_add] at h3
  have h4 : 10000 ^ (i + k) ≤ 10000 ^ (i + k) * c := Nat.le_mul_of_pos_right _ hc
  have h5 : 10000 ^ (i + k) < 10000 ^ (i + 1 + ys.length) := by omega
  have := (Nat.pow_lt_pow_iff_right (a := 10000) (by omega)).1 h5
  omega
theorem mul_done {xs ys R : List Nat} {i k : Nat} (hi : i < xs.length) (hk : ys.length ≤ k)
    (h : val 10000 R + 10000 ^ (i + k) * 0 = val 10000 (xs.take i) * val 10000 ys + 10000 ^ i * (nth xs i * val 10000 (ys.take k))) : val 10000 R = val 10000 (xs.take (i + 1)) * val 10000 ys := by
  rw [List.take_of_length_le hk, ← Nat.mul_assoc, ← Nat.add_mul, ← val_take_step 10000 xs hi] at h
  simpa using h
theorem set_row {w : World} {e : TypeId} {g N : Nat} {k : IntKind} {R : List Nat} {j t : Nat} {v : Value} (hl : R.length = N) (h : RowF w e g N (fun j => .int k (nth R j))) (hj : j < N) (hv : v = .int k (t : Int)) :
    RowF (w.setCell ⟨g, j, none⟩ v) e g N (fun i => .int k (nth (R.set j t) i)) := by
  refine (h.set j v).congr fun i hi => ?_
  by_cases hij : i = j
  · subst hij
    rw [upd_at, nth_set_at _ (by omega), hv]
  · rw [upd_ne _ _ hij, nth_set_ne _ _ hij]

end Go.Proofs.Ytckhcijknfkghaa

namespace Go.Proofs.Ytckhcijknfkghaa
open Go.RowKit

/-- What DivN hands back. -/
def DivR (w : World) (Q R : Nat) (e : Ending) (w' : World) : Prop :=
  ∃ v u, e = .returned (.tuple #[v, u]) ∧ Own w' 3 .i64 w.heap.size v (dig 10000 Q) ∧ Own w' 3 .i64 w.heap.size u (dig 10000 R) ∧ w.grownBy w' none

theorem one_own (w : World) (e : TypeId) (k : IntKind) (x : Nat) (B : Nat) (hB : B ≤ w.heap.size) : Own (w.alloc (.cells #[.int k x] e)) e k B (.slice (some ⟨w.heap.size, 0, none⟩) 1 1) [x] := by
  refine .inr ⟨w.heap.size, 1, fun _ => .int k x, rfl, hB, ?_, Nat.le_refl _, by omega, fun j hj => ?_⟩
  · exact RowF.made w #[.int k x] e _ (fun j hj => by
      have : j = 0 := by simpa using hj
      subst this; rfl)
  · have : j = 0 := by simpa using hj
    subst this; rfl
theorem cons_trim {a r : Nat} (ha : a < 10000) : trim ([a] ++ dig 10000 r) = dig 10000 (a + 10000 * r) := by
  have h : All 10000 ([a] ++ dig 10000 r) := All.cons ha (dig_all (by omega) _)
  rw [trim_eq (by omega) h]
  simp [val, val_dig]
theorem half_lo {lo hi m : Nat} (hm : (lo + hi + 1) / 2 = m) (hl : lo < hi) : lo < m ∧ m ≤ hi := by omega

theorem own_slice (p : Option Addr) (a b c d : Nat) : (Value.slice p a b).ownBlock = (Value.slice p c d).ownBlock := by
  cases p <;> simp [Value.ownBlock]
theorem dig_grow0 (Y : Nat) : (dig 10000 (10000 * Y)).length ≤ (dig 10000 Y).length + 1 := by
  refine dig_len_le (by omega) _ _ ?_
  have := dig_lt_pow (b := 10000) (by omega) Y
  rw [Nat.pow_succ]
  omega
theorem div_round {V A Z r a T Y l : Nat} (h : A = Z * Y + r) (hT : a + 10000 * r = T) (hl : Y * l ≤ T) (hV : V = a + 10000 * A) : V = (l + 10000 * Z) * Y + (T - Y * l) := by
  obtain ⟨d, rfl⟩ : ∃ d, T = Y * l + d := ⟨T - Y * l, by omega⟩
  rw [Nat.add_sub_cancel_left, hV, h, Nat.add_mul, Nat.mul_add, Nat.mul_comm l Y, Nat.mul_assoc]
  omega

end Go.Proofs.Ytckhcijknfkghaa

namespace Go.Proofs.Ytckhcijknfkghaa
open Go.RowKit

theorem pow_len (i : Nat) : (dig 10000 (2 ^ i)).length ≤ i + 1 := by
  refine dig_len_le (by omega) _ _ ?_
  exact Nat.lt_of_lt_of_le (Nat.pow_lt_pow_right (a := 2) (by omega) (Nat.lt_succ_self i)) (Nat.pow_le_pow_left (by omega) _)

set_option maxHeartbeats 1000000 in
set_option maxRecDepth 100000 in
theorem RPow (n : Nat) (w : World) (hn : n ≤ 1000000) : Calls Try.prog 50 #[.int .i64 n] w (DecM w (2 ^ n)) := by
  have OO := Lib.hid (one_own w 3 .i64 1 w.heap.size (Nat.le_refl _))
  have G0 := Lib.hid (grown_alloc w (.cells #[.int .i64 1] 3) none)
  go_enter Try.func50, Try.ntmps50
  go_wp2_with fail
  go_loopw [3, 4] (fun o i wr => ∃ k : Nat, k ≤ n ∧ i = .int .i64 k ∧ Own wr 3 .i64 w.heap.size o (dig 10000 (2 ^ k)) ∧ w.grownBy wr none) (fun _ i _ => (n - (intOf i).toNat))
  case atStart => exact ⟨0, by omega, rfl, by rw [Nat.pow_zero, dig_small (by omega) (by omega) (by omega)]; exact OO.out, G0.out⟩
  case round =>
    obtain ⟨k, hk, rfl, ho, gr⟩ := hrel
    have Ho := Lib.hid ho
    have Gr := Lib.hid gr
    clear ho gr
    by_cases hlt : k < n
    · have hl := Lib.hid (pow_len k)
      go_wp2_with fail
      refine (RmulAdd_n 2 0 Ho.out.sl (by omega) (by omega) (by have := hl.out; omega)).mono ?_
      rintro e w4 ⟨v4, rfl, ho4, g4⟩
      have Ho4 := Lib.hid (ho4.mono Gr.out.size)
      have G4 := Lib.hid (grown_trans Gr.out g4)
      clear ho4 g4
      go_wp2_with fail
      go_roundw
      case rel => exact ⟨k + 1, by omega, by go_num, by rw [Nat.pow_succ]; exact Ho4.out, G4.out⟩
      case measure => simp [intOf]; omega
    · obtain rfl : k = n := by omega
      go_wp2_with fail
      go_ret
      exact ⟨_, rfl, Ho.out, Gr.out⟩

theorem bit_step (X j : Nat) : (dig 2 (X % 2 ^ (j + 1))).length = if X / 2 ^ j % 2 = 1 then j + 1 else (dig 2 (X % 2 ^ j)).length := by
  rw [Nat.mod_pow_succ]
  have h := Nat.mod_lt X (show 0 < 2 ^ j from Nat.pow_pos (by omega))
  split
  · rename_i hb
    rw [hb]
    exact dig_len_of (by omega) (by omega) (by rw [Nat.pow_succ]; omega)
  · rename_i hb
    rw [show X / 2 ^ j % 2 = 0 by omega]
    simp
theorem and1_32 (a : Int) (h : 0 ≤ a) (h' : a < 4294967296) : bits .and .u32 a 1 = a % 2 := by
  rw [u32_and a 1 h h' (by omega) (by omega)]
  rw [show (1 : Int).toNat = 1 from rfl, Nat.and_one_is_mod]
  omega
theorem bit_at (X i k : Nat) (hk : k < 32) : nth (dig 4294967296 X) i / 2 ^ k % 2 = X / 2 ^ (32 * i + k) % 2 := by
  rw [dig_nth (by omega), Nat.pow_add, Nat.pow_mul, ← Nat.div_div_eq_div_mul, show (2 : Nat) ^ 32 = 4294967296 from rfl]
  generalize X / 4294967296 ^ i = T
  have e : (4294967296 : Nat) = 2 ^ k * (2 * 2 ^ (31 - k)) := by
    rw [← Nat.pow_succ', ← Nat.pow_add, show k + (31 - k).succ = 32 by omega]
  rw [e, Nat.mod_mul_right_div_self, Nat.mod_mul_right_mod]

end Go.Proofs.Ytckhcijknfkghaa
