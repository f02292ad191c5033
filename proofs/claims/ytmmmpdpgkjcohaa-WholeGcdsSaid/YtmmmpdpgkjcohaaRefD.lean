/- Package orreryref01: CmpN. -/
import Derived.Test.YtmmmpdpgkjcohaaRefC
namespace Go.Proofs.Ytmmmpdpgkjcohaa
open Go.RowKit

/-- What CmpN hands back: the world is as it was, but for orders drawn. -/
def CmpOut (w : World) (r : Int) (e : Ending) (w' : World) : Prop := e = .returned (.int .i64 r) ∧ ∃ n, w' = w.drewN n

set_option maxHeartbeats 400000 in
theorem RCmp_lt (p q : Option Addr) (n m cap cap' : Nat) (w : World) (h : n < m) :
    Calls Try.prog 34 #[.slice p n cap, .slice q m cap'] w (CmpOut w (-1)) := by
  go_enter Try.func34, Try.ntmps34
  go_wp2
  go_ret
  exact ⟨rfl, 0, rfl⟩
set_option maxHeartbeats 400000 in
theorem RCmp_gt (p q : Option Addr) (n m cap cap' : Nat) (w : World) (h : m < n) :
    Calls Try.prog 34 #[.slice p n cap, .slice q m cap'] w (CmpOut w 1) := by
  go_enter Try.func34, Try.ntmps34
  go_wp2
  go_ret
  exact ⟨rfl, 0, rfl⟩
set_option maxHeartbeats 400000 in
theorem RCmp_nil (p q : Option Addr) (cap cap' : Nat) (w : World) :
    Calls Try.prog 34 #[.slice p 0 cap, .slice q 0 cap'] w (CmpOut w 0) := by
  go_enter Try.func34, Try.ntmps34
  go_wp2
  refine wp_loop_rounds 1 ?_
  rw [rounds_succ]
  go_wp2
  go_ret
  exact ⟨rfl, 0, rfl⟩

set_option maxHeartbeats 400000 in
theorem RCmp_eq (b off cap b' off' cap' : Nat) (a c : List Nat) (w : World) (heq : a.length = c.length) (hlen : a.length ≤ 9223372036854775807)
    (hca : ∀ j, j < a.length → w.cell? ⟨b, off + j, none⟩ = some (.int .i64 (nth a j))) (hcc : ∀ j, j < c.length → w.cell? ⟨b', off' + j, none⟩ = some (.int .i64 (nth c j))) (all : All 10000 a) (all' : All 10000 c) :
    Calls Try.prog 34 #[.slice (some ⟨b, off, none⟩) a.length cap, .slice (some ⟨b', off', none⟩) a.length cap'] w (CmpOut w (cmpN (val 10000 a) (val 10000 c))) := by
  have He := Lib.hid heq
  have L1 : a.length ≤ c.length := by omega
  have L2 : c.length ≤ a.length := by omega
  have Al := Lib.hid all
  have Al' := Lib.hid all'
  clear heq all all'
  go_enter Try.func34, Try.ntmps34
  go_wp2_with fail
  go_loopw [5] (fun i wr => ∃ (k n : Nat) (q : Int), k ≤ a.length ∧ i = .int .i64 q ∧ q = (k : Int) - 1 ∧ wr = w.drewN n ∧ a.drop k = c.drop k) (fun i _ => (intOf i + 1).toNat)
  case atStart => exact ⟨a.length, 0, _, Nat.le_refl _, rfl, rfl, rfl, by rw [List.drop_length, He.out, List.drop_length]⟩
  case round =>
    obtain ⟨k, d, q, hk, rfl, hq, rfl, hdr⟩ := hrel
    have HD := Lib.hid hdr
    clear hdr
    cases k with
    | zero =>
      obtain rfl : q = -1 := by omega
      clear hq
      go_wp2
      go_ret
      refine ⟨?_, _, rfl⟩
      have : a = c := by simpa using HD.out
      simp [cmpN, this]
    | succ k =>
      obtain rfl : q = (k : Int) := by omega
      clear hq
      have ka := hca k (by omega)
      have kc := hcc k (by omega)
      clear hca hcc
      have b1 : (k : Int) < (a.length : Int) := by omega
      by_cases hne : nth a k = nth c k
      · have hb : (((nth a k : Nat) : Int) != ((nth c k : Nat) : Int)) = false := by rw [hne]; simp
        have HE := Lib.hid hne
        clear hne
        go_wp2
        go_quiet (fail)
        go_wp2
        go_roundw
        case rel => exact ⟨k, _, _, by omega, rfl, rfl, rfl, by rw [drop_step a (by omega), drop_step c (by omega), HE.out, HD.out]⟩
        case measure => simp [intOf]
      · have hb : (((nth a k : Nat) : Int) != ((nth c k : Nat) : Int)) = true := by rw [bne_iff_ne]; omega
        go_wp2
        go_quiet (fail)
        go_wp2
        have ka2 : ((w.drewN d).drewN nq).cell? ⟨b, off + k, none⟩ = some (.int .i64 (nth a k)) := ka
        have kc2 : ((w.drewN d).drewN nq).cell? ⟨b', off' + k, none⟩ = some (.int .i64 (nth c k)) := kc
        generalize hw2 : (w.drewN d).drewN nq = w2 at *
        have Hw2 := Lib.hid hw2
        clear hw2
        have V1 := Lib.hid (fun h => cmpN_lt (val_lt_at (b := 10000) (show k < a.length by omega) (show k < c.length by omega) HD.out Al.out h))
        have V2 := Lib.hid (fun h => cmpN_gt (val_lt_at (b := 10000) (show k < c.length by omega) (show k < a.length by omega) HD.out.symm Al'.out h))
        clear ka kc
        rcases Nat.lt_or_ge (nth a k) (nth c k) with h | h
        · have hb2 : decide (((nth a k : Nat) : Int) < ((nth c k : Nat) : Int)) = true := decide_eq_true (by omega)
          go_quiet (fail)
          go_wp2
          go_ret
          obtain rfl := Hw2.out
          exact ⟨ret_int (V1.out h).symm, _, by rw [World.drewN_drewN, World.drewN_drewN]⟩
        · have hb2 : decide (((nth a k : Nat) : Int) < ((nth c k : Nat) : Int)) = false := decide_eq_false (by omega)
          have h' : nth c k < nth a k := by omega
          go_quiet (fail)
          go_wp2
          go_ret
          obtain rfl := Hw2.out
          exact ⟨ret_int (V2.out h').symm, _, by rw [World.drewN_drewN, World.drewN_drewN]⟩

theorem RCmp {v u : Value} {X Y : Nat} {w : World} (hx : Sl w .i64 v (dig 10000 X)) (hy : Sl w .i64 u (dig 10000 Y)) :
    Calls Try.prog 34 #[v, u] w (CmpOut w (cmpN X Y)) := by
  obtain ⟨p, cap, rfl, h1, h2, h3⟩ := hx
  obtain ⟨p', cap', rfl, h1', h2', h3'⟩ := hy
  rcases Nat.lt_trichotomy (dig 10000 X).length (dig 10000 Y).length with h | h | h
  · rw [cmpN_lt (dig_len_lt (by omega) h)]
    exact RCmp_lt _ _ _ _ _ _ _ h
  · rcases h3 with h3 | ⟨b, off, rfl, h4, h5⟩
    · have hX : X = 0 := (dig_nil (by omega)).1 h3
      have hY : Y = 0 := by
        rw [h3] at h
        exact (dig_len_zero (by omega)).1 h.symm
      subst hX
      subst hY
      rw [cmpN_eq]
      exact RCmp_nil _ _ _ _ _
    · rcases h3' with h3' | ⟨b', off', rfl, h4', h5'⟩
      · have hY : Y = 0 := (dig_nil (by omega)).1 h3'
        have hX : X = 0 := by
          rw [h3'] at h
          exact (dig_len_zero (by omega)).1 h
        subst hX
        subst hY
        rw [cmpN_eq]
        exact RCmp_nil _ _ _ _ _
      · have q := RCmp_eq b off cap b' off' cap' (dig 10000 X) (dig 10000 Y) w h (by omega) h5 h5' (dig_all (by omega) _) (dig_all (by omega) _)
        rw [val_dig (by omega), val_dig (by omega)] at q
        rw [← h]
        exact q
  · rw [cmpN_gt (dig_len_lt (by omega) h)]
    exact RCmp_gt _ _ _ _ _ _ _ h

end Go.Proofs.Ytmmmpdpgkjcohaa
