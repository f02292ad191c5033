/- Package orrerykeep: Row, Same, Within. -/
import Derived.Test.YtmmmpdpgkjcohaaLimbK
namespace Go.Proofs.Ytmmmpdpgkjcohaa
open Go.RowKit

theorem Row_any {p : Option Addr} {n cap k : Nat} {w : World} (hn : n ≤ cap) :
    Calls Try.prog 74 #[.slice p n cap, .int .i64 k] w fun e w' => e = .returned (.slice p (min n k) cap) ∧ w = w' := by
  by_cases h : n ≤ k
  · have h1 : ¬ (k : Int) < (n : Int) := by omega
    have h2 : ¬ k < n := by omega
    have h3 : (0 : Int) ≤ (n : Int) := by omega
    go_enter Try.func74, Try.ntmps74
    go_wp2_with fail
    go_ret
    exact ⟨rfl, rfl⟩
  · have h1 : (k : Int) < (n : Int) := by omega
    have h2 : k < n := by omega
    have h3 : k ≤ cap := by omega
    go_enter Try.func74, Try.ntmps74
    go_wp2_with fail
    go_ret
    exact ⟨by rw [Nat.min_eq_right (by omega)]; rfl, rfl⟩

theorem Row_sl {v : Value} {xs : List Nat} {kd : IntKind} {k : Nat} {w : World} (hx : Sl w kd v xs) :
    Calls Try.prog 74 #[v, .int .i64 k] w fun e w' => ∃ v', e = .returned v' ∧ Sl w kd v' (xs.take k) ∧ w = w' := by
  obtain ⟨p, cap, rfl, h1, h2, -⟩ := id hx
  refine (Row_any h1).mono ?_
  rintro e w' ⟨rfl, rfl⟩
  refine ⟨_, rfl, ?_, rfl⟩
  have := hx.take (min xs.length k) (Nat.min_le_left _ _)
  rwa [show xs.take (min xs.length k) = xs.take k by
    rcases Nat.le_total xs.length k with h | h
    · rw [Nat.min_eq_left h, List.take_length, List.take_of_length_le h]
    · rw [Nat.min_eq_right h]] at this

def eqB (xs ys : List Nat) : Bool := decide (xs = ys)
theorem eqB_self (xs : List Nat) : eqB xs xs = true := decide_eq_true rfl
theorem eqB_of {xs ys : List Nat} (h : xs = ys) : eqB xs ys = true := decide_eq_true h

theorem Same_len {p q : Option Addr} {cap cap' : Nat} {xs ys : List Nat} {w : World} (hne : xs.length ≠ ys.length) :
    Calls Try.prog 73 #[.slice p xs.length cap, .slice q ys.length cap'] w fun e w' => e = .returned (.bool (eqB xs ys)) ∧ ∃ n, w' = w.drewN n := by
  have hb : Hid (eqB xs ys = false) := decide_eq_false (fun h => hne (by rw [h]))
  have t : (((xs.length : Nat) : Int) != ((ys.length : Nat) : Int)) = true := by rw [bne_iff_ne]; omega
  go_enter Try.func73, Try.ntmps73
  go_wp2_with fail
  go_ret
  exact ⟨by rw [hb.out]; rfl, 0, rfl⟩

theorem Same_nil {p q : Option Addr} {cap cap' : Nat} {w : World} :
    Calls Try.prog 73 #[.slice p 0 cap, .slice q 0 cap'] w fun e w' => e = .returned (.bool true) ∧ ∃ n, w' = w.drewN n := by
  go_enter Try.func73, Try.ntmps73
  go_wp2_with fail
  refine wp_loop_rounds 1 ?_
  rw [rounds_succ]
  go_wp2_with fail
  go_ret
  exact ⟨rfl, 0, rfl⟩

set_option maxHeartbeats 400000 in
theorem Same_loop (b off cap b' off' cap' : Nat) (xs ys : List Nat) (w : World) (hlen : xs.length = ys.length) (hm : xs.length ≤ 9223372036854775807)
    (hc : ∀ j, j < xs.length → w.cell? ⟨b, off + j, none⟩ = some (.int .u32 (nth xs j))) (hc' : ∀ j, j < ys.length → w.cell? ⟨b', off' + j, none⟩ = some (.int .u32 (nth ys j))) :
    Calls Try.prog 73 #[.slice (some ⟨b, off, none⟩) xs.length cap, .slice (some ⟨b', off', none⟩) ys.length cap'] w fun e w' => e = .returned (.bool (eqB xs ys)) ∧ ∃ n, w' = w.drewN n := by
  have He := Lib.hid hlen
  have L1 : xs.length ≤ ys.length := by omega
  clear hlen
  rw [← He.out]
  go_enter Try.func73, Try.ntmps73
  go_wp2_with fail
  go_loopw [5] (fun i wr => ∃ (k n : Nat), k ≤ xs.length ∧ i = .int .i64 k ∧ wr = w.drewN n ∧ xs.take k = ys.take k) (fun i _ => xs.length - (intOf i).toNat)
  case atStart => exact ⟨0, 0, by omega, rfl, rfl, rfl⟩
  case round =>
    obtain ⟨k, d, hk, rfl, rfl, hdr⟩ := hrel
    have HD := Lib.hid hdr
    clear hdr
    by_cases hlt : k < xs.length
    · have ka := hc k hlt
      have kc := hc' k (by omega)
      have b1 : (k : Int) < (xs.length : Int) := by omega
      clear hc hc'
      by_cases hne : nth xs k = nth ys k
      · have hb : (((nth xs k : Nat) : Int) != ((nth ys k : Nat) : Int)) = false := by rw [hne]; simp
        have HE := Lib.hid hne
        clear hne
        go_wp2
        go_quiet (fail)
        go_wp2
        go_roundw
        case rel => exact ⟨k + 1, _, by omega, by go_num, rfl, by rw [take_step xs hlt, take_step ys (by omega), HD.out, HE.out]⟩
        case measure => simp [intOf]; omega
      · have hb : (((nth xs k : Nat) : Int) != ((nth ys k : Nat) : Int)) = true := by rw [bne_iff_ne]; omega
        have HE : Hid (eqB xs ys = false) := decide_eq_false (fun h => hne (by rw [h]))
        go_wp2
        go_quiet (fail)
        go_wp2
        go_ret
        exact ⟨by rw [HE.out]; rfl, _, by rw [World.drewN_drewN]⟩
    · obtain rfl : k = xs.length := by omega
      clear hc hc'
      have HE : Hid (eqB xs ys = true) := by
        have := HD.out
        rw [List.take_length, He.out, List.take_length] at this
        exact decide_eq_true this
      go_wp2
      go_ret
      exact ⟨by rw [HE.out]; rfl, _, rfl⟩

theorem Same_any {v u : Value} {xs ys : List Nat} {w : World} (hx : Sl w .u32 v xs) (hy : Sl w .u32 u ys) :
    Calls Try.prog 73 #[v, u] w fun e w' => e = .returned (.bool (eqB xs ys)) ∧ ∃ n, w' = w.drewN n := by
  obtain ⟨p, cap, rfl, h1, h2, h3⟩ := hx
  obtain ⟨p', cap', rfl, h1', h2', h3'⟩ := hy
  by_cases hl : xs.length = ys.length
  · rcases h3 with rfl | ⟨b, off, rfl, h4, h5⟩
    · obtain rfl : ys = [] := List.eq_nil_of_length_eq_zero hl.symm
      exact Same_nil
    · rcases h3' with rfl | ⟨b', off', rfl, h4', h5'⟩
      · obtain rfl : xs = [] := List.eq_nil_of_length_eq_zero hl
        exact Same_nil
      · exact Same_loop b off cap b' off' cap' xs ys w hl (by omega) h5 h5'
  · exact Same_len hl

theorem Same_b {v u : Value} {xs ys : List Nat} {w : World} (hx : Sl w .u32 v xs) (hy : Sl w .u32 u ys) :
    Calls Try.prog 73 #[v, u] w fun e w' => e = .returned (.bool (eqB xs ys)) ∧ w.grownBy w' none :=
  (Same_any hx hy).mono fun _ _ ⟨h, n, hw⟩ => ⟨h, by rw [hw]; exact grown_drewN _ _ _⟩
theorem Cmp_b {v u : Value} {xs ys : List Nat} {w : World} (hx : Sl w .u32 v xs) (hy : Sl w .u32 u ys) (ax : All 4294967296 xs) (ay : All 4294967296 ys) :
    Calls Try.prog 60 #[v, u] w fun e w' => e = .returned (.int .i64 (cmpN (val 4294967296 xs) (val 4294967296 ys))) ∧ w.grownBy w' none :=
  (Cmp_any hx hy ax ay).mono fun _ _ ⟨h, n, hw⟩ => ⟨h, by rw [hw]; exact grown_drewN _ _ _⟩

end Go.Proofs.Ytmmmpdpgkjcohaa
