/- Package orreryref01: cut, mulAdd, small. -/
import Derived.Test.YtmmmpdpgkjcohaaKeepB
namespace Go.Proofs.Ytmmmpdpgkjcohaa
open Go.RowKit

theorem cut_some (b off n cap : Nat) (xs : List Nat) (w : World) (hn : n ≤ xs.length) (hcap : n ≤ cap) (hm : cap ≤ 9223372036854775807)
    (hc : ∀ j, j < xs.length → w.cell? ⟨b, off + j, none⟩ = some (.int .i64 (nth xs j))) :
    Calls Try.prog 76 #[.slice (some ⟨b, off, none⟩) n cap] w fun e w' => e = .returned (.slice (some ⟨b, off, none⟩) (trimTo xs n) cap) ∧ w = w' := by
  go_enter Try.func76, Try.ntmps76
  go_wp2
  go_loop [3] (fun v => ∃ k : Nat, k ≤ n ∧ v = .int .i64 k ∧ trimTo xs k = trimTo xs n) (fun v => (intOf v).toNat)
  case atStart => exact ⟨n, by omega, rfl, rfl⟩
  case round =>
    obtain ⟨k, hk, rfl, ht⟩ := hrel
    have HT := Lib.hid ht
    clear ht
    cases k with
    | zero =>
      go_wp2
      go_ret
      exact ⟨by rw [← HT.out]; rfl, rfl⟩
    | succ k =>
      have hcell := hc k (by omega)
      clear hc
      have hkc : k ≤ cap := by omega
      by_cases h0 : nth xs k = 0
      · have hb := bool_eq0 h0
        have HZ := Lib.hid h0
        clear h0
        go_wp2
        go_round
        case rel => exact ⟨k, by omega, by go_num, by rw [← HT.out]; simp [trimTo, HZ.out]⟩
        case measure => simp [intOf]; try omega
      · have hb := bool_ne0 h0
        go_wp2
        go_ret
        exact ⟨by rw [← HT.out]; simp [trimTo, h0], rfl⟩

set_option maxHeartbeats 400000 in
theorem cut_empty (p : Option Addr) (cap : Nat) (w : World) :
    Calls Try.prog 76 #[.slice p 0 cap] w fun e w' => e = .returned (.slice p 0 cap) ∧ w = w' := by
  go_enter Try.func76, Try.ntmps76
  go_wp2
  refine wp_loop_rounds 1 ?_
  rw [rounds_succ]
  go_wp2
  go_ret
  exact ⟨rfl, rfl⟩

theorem cut_any (p : Option Addr) (n cap : Nat) (xs : List Nat) (w : World) (h : Sl w .i64 (.slice p n cap) xs) :
    Calls Try.prog 76 #[.slice p n cap] w fun e w' => e = .returned (.slice p (trim xs).length cap) ∧ w = w' := by
  obtain ⟨p', cap', e, h1, h2, h3⟩ := h
  simp only [Value.slice.injEq] at e
  obtain ⟨rfl, rfl, rfl⟩ := e
  rw [trim_len]
  rcases h3 with rfl | ⟨b, off, rfl, h4, h5⟩
  · exact cut_empty _ _ _
  · exact cut_some b off xs.length cap xs w (Nat.le_refl _) h1 h2 h5



theorem cut_to {p : Option Addr} {n cap : Nat} {xs a : List Nat} {w : World} (h : Sl w .i64 (.slice p n cap) xs) (ha : trim xs = a) :
    Calls Try.prog 76 #[.slice p n cap] w fun e w' => e = .returned (.slice p a.length cap) ∧ w = w' := by
  subst ha
  exact cut_any p n cap xs w h

theorem Own.slice {w : World} {e : TypeId} {k : IntKind} {B : Nat} {v : Value} {xs : List Nat} (h : Own w e k B v xs) : ∃ p cap, v = .slice p xs.length cap := by
  obtain ⟨p, cap, rfl, -⟩ := h.sl
  exact ⟨p, cap, rfl⟩
/-- The number X in digits to the base 10000. -/
def DecM (w : World) (X : Nat) (e : Ending) (w' : World) : Prop := Made 3 .i64 w (dig 10000 X) e w'

theorem muladd_val {xs : List Nat} {m c0 k : Nat} (hk : xs.length ≤ k) (h0 : chC 10000 (fun j => nth xs j * m) c0 k = 0) : val 10000 (pre (chD 10000 (fun j => nth xs j * m) c0) k) = val 10000 xs * m + c0 := by
  have := ch_val 10000 (fun j => nth xs j * m) c0 k
  rw [h0, val_mul, val_pre_more _ _ hk] at this
  omega

set_option maxHeartbeats 1000000 in
theorem RmulAdd {v : Value} {xs : List Nat} {w : World} (m c0 : Nat) (hx : Sl w .i64 v xs) (ax : All 10000 xs) (hm : m ≤ 65536) (hc : c0 ≤ 65536) (hlen : xs.length ≤ 8796093022208) :
    Calls Try.prog 66 #[v, .int .i64 m, .int .i64 c0] w (DecM w (val 10000 xs * m + c0)) := by
  obtain ⟨p, cap, rfl, h1, h2, h3⟩ := id hx
  obtain ⟨i0, hi, hz0, hz1, hz2⟩ := info_parts Try.infoI
  obtain ⟨n, hn⟩ : ∃ n, xs.length = n := ⟨_, rfl⟩
  have Cb := Lib.hid (fun k => chC_lt (b := 10000) (m := 65537) (s := fun j => nth xs j * m) (c0 := c0) (fun j => by
    have b1 : nth xs j ≤ 9999 := by have := nth_lt (by omega) ax j; omega
    have := Nat.mul_le_mul b1 hm
    show nth xs j * m + 65537 ≤ _
    omega) (by omega) k)
  rw [hn] at hlen h1 ⊢
  have Hx := Lib.hid hx
  have Ax := Lib.hid ax
  have H3 := Lib.hid h3
  have Hn := Lib.hid hn
  clear hx ax h3 hn
  go_enter Try.func66, Try.ntmps66
  go_wp2_with (at_make; refine wp_make rfl _ _ 26 rfl 3 i0 (.int .i64 0) Try.underlying26 hi hz0 hz1 (by omega) rfl _ _ _ _ 0 (n + 2) rfl rfl (by omega) (by omega) (by omega) (by omega) ?_; intro w1 r1 g1 s1; have R1 := Lib.hid r1; have G1 := Lib.hid g1; clear r1 g1)
  go_loopw [2, 7, 8] (fun cv o i wr => ∃ k : Nat, i = .int .i64 k ∧ cv = .int .i64 (chC 10000 (fun j => nth xs j * m) c0 k : Nat) ∧ k + chC 10000 (fun j => nth xs j * m) c0 k ≤ n + 65537 ∧ Own wr 3 .i64 w.heap.size o (pre (chD 10000 (fun j => nth xs j * m) c0) k) ∧ w.grownBy wr none ∧ w.heap.size < wr.heap.size) (fun cv _ i _ => (n - (intOf i).toNat) * 100000 + (intOf cv).toNat)
  case atStart =>
    refine ⟨0, rfl, rfl, by show 0 + c0 ≤ _; omega, .inr ⟨w.heap.size, n + 2, _, rfl, Nat.le_refl _, R1.out, by simp [pre], by omega, fun j hj => by simp [pre] at hj⟩, G1.out, by omega⟩
  case round =>
    obtain ⟨k, rfl, rfl, hk, ho, gr, sr⟩ := hrel
    have cb := Cb.out k
    have cb' := Cb.out (k + 1)
    have HC := Lib.hid (show chC 10000 (fun j => nth xs j * m) c0 (k + 1) = (chC 10000 (fun j => nth xs j * m) c0 k + nth xs k * m) / 10000 from rfl)
    have HD := Lib.hid (show pre (chD 10000 (fun j => nth xs j * m) c0) (k + 1) = pre (chD 10000 (fun j => nth xs j * m) c0) k ++ [(chC 10000 (fun j => nth xs j * m) c0 k + nth xs k * m) % 10000] from pre_succ _ _)
    obtain ⟨Z, hZ⟩ : ∃ Z, pre (chD 10000 (fun j => nth xs j * m) c0) k = Z := ⟨_, rfl⟩
    have zl : Z.length = k := by rw [← hZ, pre_len]
    rw [hZ] at HD ho
    have HZ := Lib.hid hZ
    have Ho := Lib.hid ho
    have Gr := Lib.hid gr
    have Zl := Lib.hid zl
    obtain ⟨op, ocap, rfl⟩ := ho.slice
    rw [zl] at Ho
    generalize hcr : chC 10000 (fun j => nth xs j * m) c0 k = cr at *
    have Hcr := Lib.hid hcr
    generalize hcs : chC 10000 (fun j => nth xs j * m) c0 (k + 1) = cs at *
    have Hcs := Lib.hid hcs
    clear hZ ho gr hcr hcs
    rw [zl]
    clear zl
    by_cases hlt : k < n
    · rcases H3.out with h3 | ⟨b, off, rfl, hbl, hy⟩
      · have := Hn.out; rw [h3] at this; simp at this; omega
      have c1 : wr.cell? ⟨b, off + k, none⟩ = some (.int .i64 (nth xs k)) := by
        rw [World.cell?_of_block (w := w) (Gr.out.block b hbl (by simp)), hy k (by rw [Hn.out]; omega)]
      clear hy
      have b1 : nth xs k < 10000 := Ax.out.nth (by rw [Hn.out]; omega)
      have b2 : nth xs k * m ≤ 655350000 := by have := Nat.mul_le_mul (show nth xs k ≤ 9999 by omega) hm; omega
      obtain ⟨t, ht⟩ : ∃ t, nth xs k * m = t := ⟨_, rfl⟩
      rw [ht] at HC HD b2
      have ht' : ((nth xs k : Nat) : Int) * (m : Int) = (t : Int) := by rw [← ht, Int.natCast_mul]
      clear ht
      go_wp2_with (at_builtin; refine wp_append1 rfl _ _ 26 rfl 3 i0 (.int .i64 0) .i64 Try.underlying26 hi hz0 hz1 (by omega) rfl w.heap.size (.slice op k ocap) Z ((cr + t) % 10000) rfl (Ho.out.grown (grown_alloc _ _ none) (.inl rfl)) wr.heap.size rfl ?c1 (by rw [Zl.out]; omega) (by simp; omega) ?_; (case c1 => exact (World.cell?_alloc_at _ _ _ _ rfl).trans (by simp)); intro v' w3 ho3 g3; have Ho3 := Lib.hid ho3; have G3 := Lib.hid (grown_own (v := .slice op k ocap) g3 (Ho.out.grown (grown_alloc _ _ none) (.inl rfl)) (grown_trans Gr.out (grown_alloc _ _ _))); have s3 := g3.size; clear ho3 g3)
      go_roundw
      case rel => exact ⟨k + 1, by go_num, int_eq (by rw [Hcs.out, HC.out]; omega), by rw [Hcs.out]; omega, by rw [HD.out]; exact Ho3.out, G3.out, by simp at s3; omega⟩
      case measure =>
        have h := HC.out
        have h2 : (((cr : Int) + (t : Int)) / 10000) = ((cs : Nat) : Int) := by omega
        rw [h2]
        simp only [intOf]
        omega
    · have y0 : nth xs k = 0 := nth_out xs (by rw [Hn.out]; omega)
      rw [y0] at HC HD
      have hC := HC.out
      clear y0
      by_cases hcr : cr = 0
      · subst hcr
        go_wp2_with fail
        refine (cut_any _ _ _ Z _ Ho.out.sl).mono ?_
        rintro e w' ⟨rfl, rfl⟩
        go_wp2_with fail
        go_ret
        have e := muladd_val (m := m) (c0 := c0) (by rw [Hn.out]; omega) Hcr.out
        rw [HZ.out] at e
        have az : All 10000 Z := by rw [← HZ.out]; exact pre_all (fun j _ => chD_lt (by omega) _ _ _)
        refine ⟨_, rfl, ?_, Gr.out⟩
        rw [← e, ← trim_eq (by omega) az]
        exact (Zl.out ▸ Ho.out : Own wr 3 .i64 w.heap.size (.slice op Z.length ocap) Z).trim
      · have hcp : 0 < cr := by omega
        go_wp2_with (at_builtin; refine wp_append1 rfl _ _ 26 rfl 3 i0 (.int .i64 0) .i64 Try.underlying26 hi hz0 hz1 (by omega) rfl w.heap.size (.slice op k ocap) Z (cr % 10000) rfl (Ho.out.grown (grown_alloc _ _ none) (.inl rfl)) wr.heap.size rfl ?c1 (by rw [Zl.out]; omega) (by simp; omega) ?_; (case c1 => exact (World.cell?_alloc_at _ _ _ _ rfl).trans (by simp)); intro v' w3 ho3 g3; have Ho3 := Lib.hid ho3; have G3 := Lib.hid (grown_own (v := .slice op k ocap) g3 (Ho.out.grown (grown_alloc _ _ none) (.inl rfl)) (grown_trans Gr.out (grown_alloc _ _ _))); have s3 := g3.size; clear ho3 g3)
        go_roundw
        case rel => exact ⟨k + 1, by go_num, int_eq (by rw [Hcs.out, HC.out]; omega), by rw [Hcs.out]; omega, by rw [HD.out]; simpa using Ho3.out, G3.out, by simp at s3; omega⟩
        case measure => simp only [intOf]; omega

end Go.Proofs.Ytmmmpdpgkjcohaa
