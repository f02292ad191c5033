/- Package orrerykeep: Copy, Lend, Intact, Spoil. -/
import Derived.Test.YtmmmpdpgkjcohaaLawKit
import Derived.Test.YtmmmpdpgkjcohaaAppend
namespace Go.Proofs.Ytmmmpdpgkjcohaa
open Go.RowKit

set_option maxHeartbeats 400000 in
theorem Copy_any {v : Value} {xs : List Nat} {w : World} (hx : Sl w .u32 v xs) (hl : xs.length ≤ 17592186044415) :
    Calls Try.prog 45 #[v] w (Made 65 .u32 w xs) := by
  obtain ⟨p, cap, rfl, -⟩ := id hx
  obtain ⟨i0, hi, hz0, hz1, hz2⟩ := info_parts Try.infoU
  have Hx := Lib.hid hx
  clear hx
  go_enter Try.func45, Try.ntmps45
  go_wp2_with (at_builtin; refine wp_appendN rfl _ _ 22 rfl 65 i0 (.int .u32 0) .u32 Try.underlying22 hi hz0 hz1 (by omega) rfl w.heap.size (.slice none 0 0) [] rfl (Own.nil _ _ _ _) p xs.length cap xs rfl Hx.out (by simp; omega) (Nat.le_refl _) ?_; intro v' w' h1 h2)
  go_ret
  exact ⟨_, rfl, by simpa using h1, h2⟩

theorem nth_rep {n j : Nat} (x : Nat) (h : j < n) : nth (List.replicate n x) j = x := by simp [nth, h]
theorem NumC.none (w : World) : NumC w (.slice none 0 0) 0 1 := ⟨Sl.nil _ _, by unfold Bd; exact Nat.pow_pos (by omega)⟩
/-- What was written into memory that was made between is new memory. -/
theorem grown_own {w w1 w2 : World} {e : TypeId} {k : IntKind} {v : Value} {xs : List Nat} (g : w1.grownBy w2 v.ownBlock) (h : Own w1 e k w.heap.size v xs) (g0 : w.grownBy w1 none) : w.grownBy w2 none :=
  ⟨g.os.trans g0.os, g.tape.trans g0.tape, g.output.trans g0.output, Nat.le_trans g0.size g.size,
    fun i hi _ => (g.block i (Nat.lt_of_lt_of_le hi g0.size) (fun e => by have := (h.lt i e.symm).1; omega)).trans (g0.block i hi (by simp))⟩
/-- A lent row: three limbs of its own behind it. -/
def Lent (w : World) (B : Nat) (v : Value) (xs : List Nat) : Prop := ∃ g, B ≤ g ∧ v = .slice (some ⟨g, 0, none⟩) xs.length (xs.length + 3) ∧ Blk w g (xs ++ List.replicate 3 1431655765)
theorem Lent.sl {w : World} {B : Nat} {v : Value} {xs : List Nat} (h : Lent w B v xs) (hl : xs.length ≤ 1000000) : Sl w .u32 v xs := by
  obtain ⟨g, -, rfl, h⟩ := h
  have := h.sl 0 xs.length (xs.length + 3) (by simp) (by omega) (by omega)
  rw [List.drop_zero, List.take_append_of_le_length (Nat.le_refl _), List.take_length] at this
  exact this
theorem Lent.grown {w w' : World} {B : Nat} {v : Value} {xs : List Nat} {row : Option Nat} (h : Lent w B v xs) (hg : w.grownBy w' row) (hne : row = none ∨ v.ownBlock ≠ row) : Lent w' B v xs := by
  obtain ⟨g, hB, rfl, h⟩ := h
  refine ⟨g, hB, rfl, h.grown hg ?_⟩
  rcases hne with rfl | hne
  · simp
  · simpa [Value.ownBlock] using hne
theorem Lent.lt {w : World} {B : Nat} {v : Value} {xs : List Nat} (h : Lent w B v xs) : ∃ g, v.ownBlock = some g ∧ B ≤ g ∧ g < w.heap.size := by
  obtain ⟨g, hB, rfl, h⟩ := h
  exact ⟨g, rfl, hB, h.lt⟩

/-- What Lend hands back. -/
def LentOut (w : World) (xs : List Nat) (e : Ending) (w' : World) : Prop := ∃ v, e = .returned v ∧ Lent w' w.heap.size v xs ∧ w.grownBy w' none

set_option maxHeartbeats 1000000 in
theorem Lend_any {v : Value} {xs : List Nat} {w : World} (hx : Sl w .u32 v xs) (hl : xs.length ≤ 1000000) :
    Calls Try.prog 12 #[v] w (LentOut w xs) := by
  obtain ⟨p, cap, rfl, -⟩ := id hx
  obtain ⟨i0, hi, hz0, hz1, hz2⟩ := info_parts Try.infoU
  have Hx := Lib.hid hx
  clear hx
  obtain ⟨n, hn⟩ : ∃ n, xs.length = n := ⟨_, rfl⟩
  rw [hn] at hl ⊢
  have Hn := Lib.hid hn
  have Hx' := Lib.hid (hn ▸ Hx.out : Sl w .u32 (.slice p n cap) xs)
  clear hn
  go_enter Try.func12, Try.ntmps12
  go_wp2_with (first
    | (at_make; refine wp_make rfl _ _ 22 rfl 65 i0 (.int .u32 0) Try.underlying22 hi hz0 hz1 (by omega) rfl _ _ _ _ n (n + 3) rfl rfl rfl (by omega) (by omega) (by omega) ?_; intro w1 r1 g1 s1)
    | ((with_reducible refine wp_copy rfl (.tmp 12) (.tmp 13) 22 22 rfl 65 Try.underlying22 Try.sizeU .u32 p w.heap.size 0 (n + 3) n n (n + 3) n cap (fun _ => .int .u32 0) xs rfl rfl (Hx'.out.grown g1 (.inl rfl)) r1 (Nat.min_self _).symm (by omega) ?_); intro w2 r2 g2 s2))
  have R2 := Lib.hid r2
  have G2 := Lib.hid (grown_new g1 g2 (Nat.le_refl _))
  have hs2 : w.heap.size < w2.heap.size := by omega
  clear r1 r2 g1 g2 s1 s2
  obtain ⟨Z, hZ⟩ : ∃ Z, xs ++ List.replicate 3 1431655765 = Z := ⟨_, rfl⟩
  have hZl : Z.length = n + 3 := by rw [← hZ, List.length_append, Hn.out]; rfl
  have hZ5 : ∀ j, n ≤ j → j < n + 3 → nth Z j = 1431655765 := fun j h1 h2 => by
    rw [← hZ, nth_app_ge _ _ (by rw [Hn.out]; exact h1), Hn.out]
    exact nth_rep _ (by omega)
  have hZx : ∀ j, j < n → nth Z j = nth xs j := fun j h1 => by rw [← hZ, nth_app_lt _ _ (by rw [Hn.out]; exact h1)]
  have HZ := Lib.hid hZ
  have HZl := Lib.hid hZl
  have HZ5 := Lib.hid hZ5
  have HZx := Lib.hid hZx
  clear hZ hZl hZ5 hZx
  have R3 := Lib.hid (R2.out.congr (c' := lay (fun _ => .int .u32 0) 0 n .u32 Z) (fun j hj => by
    by_cases h : j < n
    · rw [lay_in0 _ _ _ h, lay_in0 _ _ _ h, HZx.out j h]
    · rw [lay_out _ _ _ (by omega), lay_out _ _ _ (by omega)]))
  go_loopw [5] (fun i wr => ∃ k : Nat, n ≤ k ∧ k ≤ n + 3 ∧ i = .int .i64 k ∧ RowF wr 65 w.heap.size (n + 3) (lay (fun _ => .int .u32 0) 0 k .u32 Z) ∧ w.grownBy wr none ∧ w.heap.size < wr.heap.size) (fun i _ => (n + 3 - (intOf i).toNat))
  case atStart => exact ⟨n, Nat.le_refl _, by omega, rfl, R3.out, G2.out, hs2⟩
  case round =>
    obtain ⟨k, hk1, hk2, rfl, rr, gr, sr⟩ := hrel
    by_cases hlt : k < n + 3
    · have c1 : wr.cell? ⟨w.heap.size, k, none⟩ = some (.int .u32 0) := by rw [rr.cell hlt, lay_out _ _ _ (by omega)]
      have f1 : wr.frozen? ⟨w.heap.size, k, none⟩ = false := rr.frozen _
      have i1 : (k : Int) < (n : Int) + 3 := by omega
      have Rr := Lib.hid rr
      have Gr := Lib.hid gr
      clear rr gr
      go_wp2
      go_roundw
      case rel =>
        refine ⟨k + 1, by omega, by omega, by go_num, ?_, grown_new Gr.out (grown_set _ _ _ _) (Nat.le_refl _), by simpa using sr⟩
        have e : Value.int .u32 1431655765 = .int .u32 (nth Z k) := by rw [HZ5.out k hk1 hlt]; rfl
        rw [e, ← lay_step0 _ k .u32 Z rfl]
        exact Rr.out.set k _
      case measure => simp [intOf]; omega
    · obtain rfl : k = n + 3 := by omega
      have Rr := Lib.hid rr
      have Gr := Lib.hid gr
      clear rr gr
      go_wp2
      go_ret
      refine ⟨_, rfl, ⟨w.heap.size, Nat.le_refl _, by rw [Hn.out]; rfl, ?_⟩, Gr.out⟩
      rw [HZ.out]
      exact Blk.of Rr.out HZl.out (fun j hj => lay_in0 _ _ _ hj)

set_option maxHeartbeats 1000000 in
theorem Intact_any {v u : Value} {xs : List Nat} {w : World} {B : Nat} (hv : Lent w B v xs) (hx : Sl w .u32 u xs) (hl : xs.length ≤ 1000000) :
    Calls Try.prog 27 #[v, u] w (Bool_ w true) := by
  obtain ⟨p, cap, rfl, h1, h2, h3⟩ := id hx
  obtain ⟨g, -, rfl, hb⟩ := hv
  obtain ⟨n, hn⟩ : ∃ n, xs.length = n := ⟨_, rfl⟩
  rw [hn] at hl h1 ⊢
  have Hn := Lib.hid hn
  have Hb := Lib.hid hb
  have H3 := Lib.hid h3
  clear hn hb h3 hx
  go_enter Try.func27, Try.ntmps27
  go_wp2_with fail
  go_loopw [27] (fun i wr => ∃ k d : Nat, k ≤ n + 3 ∧ i = .int .i64 k ∧ wr = w.drewN d) (fun i _ => (n + 3 - (intOf i).toNat))
  case atStart => exact ⟨0, 0, by omega, rfl, rfl⟩
  case round =>
    obtain ⟨k, d, hk, rfl, rfl⟩ := hrel
    by_cases hlt : k < n + 3
    · have i1 : (k : Int) < (n : Int) + 3 := by omega
      by_cases hkn : k < n
      · have c1 : w.cell? ⟨g, k, none⟩ = some (.int .u32 (nth xs k)) := by
          rw [Hb.out.cell (by rw [List.length_append, Hn.out]; omega), nth_app_lt _ _ (by rw [Hn.out]; exact hkn)]
        rcases H3.out with h3 | ⟨b, off, rfl, hbl, hy⟩
        · have := Hn.out; rw [h3] at this; simp at this; omega
        have c2 : w.cell? ⟨b, off + k, none⟩ = some (.int .u32 (nth xs k)) := hy k (by rw [Hn.out]; exact hkn)
        have t1 : decide ((k : Int) < (n : Int)) = true := by rw [decide_eq_true_iff]; omega
        have t2 : (((nth xs k : Nat) : Int) != ((nth xs k : Nat) : Int)) = false := by simp
        have t3 : decide (n ≤ k) = false := by rw [decide_eq_false_iff_not]; omega
        have i2 : (k : Int) < (n : Int) := by omega
        have t4 : ¬ (n : Int) ≤ (k : Int) := by omega
        clear hy
        go_wp2_with fail
        go_quiet (fail)
        go_wp2_with fail
        go_roundw
        case rel => exact ⟨k + 1, _, by omega, by go_num, rfl⟩
        case measure => simp [intOf]; omega
      · have c1 : w.cell? ⟨g, k, none⟩ = some (.int .u32 1431655765) := by
          rw [Hb.out.cell (by rw [List.length_append, Hn.out]; simp; omega), nth_app_ge _ _ (by rw [Hn.out]; omega), Hn.out]
          rw [nth_rep _ (by omega)]; rfl
        have t1 : decide (k < n) = false := by rw [decide_eq_false_iff_not]; omega
        have t3 : decide (n ≤ k) = true := by rw [decide_eq_true_iff]; omega
        have i2 : (n : Int) ≤ (k : Int) := by omega
        go_wp2_with fail
        go_quiet (fail)
        go_wp2_with fail
        go_roundw
        case rel => exact ⟨k + 1, _, by omega, by go_num, rfl⟩
        case measure => simp [intOf]; omega
    · obtain rfl : k = n + 3 := by omega
      go_wp2_with fail
      go_ret
      exact ⟨rfl, grown_drewN _ _ _⟩

/-- What Spoil leaves. -/
def Spoiled (w : World) (v : Value) (e : Ending) (w' : World) : Prop := e = .returned (.tuple #[]) ∧ w.grownBy w' v.ownBlock

set_option maxHeartbeats 1000000 in
theorem Spoil_some (g n cap : Nat) (c : Nat → Value) (w : World) (hr : RowF w 65 g cap c) (hn : n ≤ cap) (hc : cap ≤ 9223372036854775807) :
    Calls Try.prog 26 #[.slice (some ⟨g, 0, none⟩) n cap] w (Spoiled w (.slice (some ⟨g, 0, none⟩) n cap)) := by
  have Hr := Lib.hid hr
  clear hr
  go_enter Try.func26, Try.ntmps26
  go_wp2_with fail
  go_loopw [10] (fun i wr => ∃ (k : Nat) (c' : Nat → Value), k ≤ cap ∧ i = .int .i64 k ∧ RowF wr 65 g cap c' ∧ w.grownBy wr (some g)) (fun i _ => (cap - (intOf i).toNat))
  case atStart => exact ⟨0, c, by omega, rfl, Hr.out, grown_refl _ _⟩
  case round =>
    obtain ⟨k, c', hk, rfl, rr, gr⟩ := hrel
    by_cases hlt : k < cap
    · have c1 : wr.cell? ⟨g, k, none⟩ = some (c' k) := rr.cell hlt
      have f1 : wr.frozen? ⟨g, k, none⟩ = false := rr.frozen _
      have i1 : (k : Int) < (cap : Int) := by omega
      have Rr := Lib.hid rr
      have Gr := Lib.hid gr
      clear rr gr
      go_wp2_with fail
      go_roundw
      case rel => exact ⟨k + 1, _, by omega, by go_num, Rr.out.set k _, grown_trans Gr.out (grown_set _ _ _ _)⟩
      case measure => simp [intOf]; omega
    · obtain rfl : k = cap := by omega
      go_wp2_with fail
      go_end0
      exact ⟨rfl, gr⟩

theorem Spoil_nil (w : World) : Calls Try.prog 26 #[.slice none 0 0] w (Spoiled w (.slice none 0 0)) := by
  go_enter Try.func26, Try.ntmps26
  go_wp2_with fail
  refine wp_loop_rounds 1 ?_
  rw [rounds_succ]
  go_wp2_with fail
  go_end0
  exact ⟨rfl, grown_refl _ _⟩

theorem Spoil_any {w : World} {B : Nat} {v : Value} {xs : List Nat} (h : Own w 65 .u32 B v xs) : Calls Try.prog 26 #[v] w (Spoiled w v) := by
  rcases h with ⟨rfl, rfl⟩ | ⟨g, cap, c, rfl, h1, h2, h3, h4, h5⟩
  · exact Spoil_nil w
  · exact Spoil_some g xs.length cap c w h2 h3 h4

end Go.Proofs.Ytmmmpdpgkjcohaa
