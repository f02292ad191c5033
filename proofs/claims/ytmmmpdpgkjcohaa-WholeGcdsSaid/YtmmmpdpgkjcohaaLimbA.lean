/- Package limb, the readers: trim, sign, Cmp: each returns what the numbers say and leaves memory as it was. -/
import Derived.Test.YtmmmpdpgkjcohaaBase
import Derived.Test.YtmmmpdpgkjcohaaBits
import Derived.Deep.QuietTactic
import Derived.BigQuiet
namespace Go.Proofs.Ytmmmpdpgkjcohaa
open Go.RowKit

def lenOf : Value → Nat | .slice _ n _ => n | _ => 0

theorem bool_eq0 {x : Nat} (h : x = 0) : (((x : Nat) : Int) == 0) = true := by subst h; rfl
theorem bool_ne0 {x : Nat} (h : ¬ x = 0) : (((x : Nat) : Int) == 0) = false := by
  rw [beq_eq_false_iff_ne]; omega

set_option maxHeartbeats 400000 in
theorem trim_some (b off n cap : Nat) (xs : List Nat) (w : World) (hn : n ≤ xs.length) (hcap : n ≤ cap) (hm : cap ≤ 9223372036854775807)
    (hc : ∀ j, j < xs.length → w.cell? ⟨b, off + j, none⟩ = some (.int .u32 (nth xs j))) :
    Calls Try.prog 77 #[.slice (some ⟨b, off, none⟩) n cap] w fun e w' => e = .returned (.slice (some ⟨b, off, none⟩) (trimTo xs n) cap) ∧ w = w' := by
  go_enter Try.func77, Try.ntmps77
  go_wp2
  go_loop [0] (fun v => ∃ k : Nat, k ≤ n ∧ v = .slice (some ⟨b, off, none⟩) k cap ∧ trimTo xs k = trimTo xs n) (fun v => lenOf v)
  case atStart => exact ⟨n, by omega, rfl, rfl⟩
  case round =>
    obtain ⟨k, hk, rfl, ht⟩ := hrel
    have HT := Lib.hid ht
    clear ht
    cases k with
    | zero =>
      go_wp2
      go_ret
      exact ⟨by rw [← HT.out]; rfl, rfl⟩
    | succ k =>
      have hcell := hc k (by omega)
      clear hc
      have hkc : k ≤ cap := by omega
      by_cases h0 : nth xs k = 0
      · have hb := bool_eq0 h0
        have HZ := Lib.hid h0
        clear h0
        go_wp2
        go_round
        case rel => exact ⟨k, by omega, rfl, by rw [← HT.out]; simp [trimTo, HZ.out]⟩
        case measure => simp [lenOf]
      · have hb := bool_ne0 h0
        go_wp2
        go_ret
        exact ⟨by rw [← HT.out]; simp [trimTo, h0], rfl⟩

set_option maxHeartbeats 400000 in
theorem trim_empty (p : Option Addr) (cap : Nat) (w : World) :
    Calls Try.prog 77 #[.slice p 0 cap] w fun e w' => e = .returned (.slice p 0 cap) ∧ w = w' := by
  go_enter Try.func77, Try.ntmps77
  go_wp2
  refine wp_loop_rounds 1 ?_
  rw [rounds_succ]
  go_wp2
  go_ret
  exact ⟨rfl, rfl⟩

theorem trim_any (p : Option Addr) (n cap : Nat) (xs : List Nat) (w : World) (h : Sl w .u32 (.slice p n cap) xs) :
    Calls Try.prog 77 #[.slice p n cap] w fun e w' => e = .returned (.slice p (trim xs).length cap) ∧ w = w' := by
  obtain ⟨p', cap', e, h1, h2, h3⟩ := h
  simp only [Value.slice.injEq] at e
  obtain ⟨rfl, rfl, rfl⟩ := e
  rw [trim_len]
  rcases h3 with rfl | ⟨b, off, rfl, h4, h5⟩
  · exact trim_empty _ _ _
  · exact trim_some b off xs.length cap xs w (Nat.le_refl _) h1 h2 h5

theorem sign_true (w : World) : Calls Try.prog 79 #[.bool true] w fun e w' => e = .returned (.int .i64 1) ∧ w = w' := by
  go_enter Try.func79, Try.ntmps79
  go_wp2
  go_ret
  exact ⟨rfl, rfl⟩
theorem sign_false (w : World) : Calls Try.prog 79 #[.bool false] w fun e w' => e = .returned (.int .i64 (-1)) ∧ w = w' := by
  go_enter Try.func79, Try.ntmps79
  go_wp2
  go_ret
  exact ⟨rfl, rfl⟩
def sgn : Bool → Int | true => 1 | false => -1
theorem sgn_yes {p : Prop} [Decidable p] (h : p) : sgn (decide p) = 1 := by rw [decide_eq_true h]; rfl
theorem sgn_no {p : Prop} [Decidable p] (h : ¬ p) : sgn (decide p) = -1 := by rw [decide_eq_false h]; rfl
theorem sign_any (b : Bool) (w : World) : Calls Try.prog 79 #[.bool b] w fun e w' => e = .returned (.int .i64 (sgn b)) ∧ w = w' := by
  cases b
  · exact sign_false w
  · exact sign_true w

theorem trim_to {p : Option Addr} {n cap : Nat} {xs a : List Nat} {w : World} (h : Sl w .u32 (.slice p n cap) xs) (ha : trim xs = a) :
    Calls Try.prog 77 #[.slice p n cap] w fun e w' => e = .returned (.slice p a.length cap) ∧ w = w' := by
  subst ha
  exact trim_any p n cap xs w h

set_option maxHeartbeats 400000 in
theorem cmp_len (p q : Option Addr) (n m cap cap' : Nat) (xs ys a c : List Nat) (w : World) (hx : Sl w .u32 (.slice p n cap) xs) (hy : Sl w .u32 (.slice q m cap') ys)
    (ha : trim xs = a) (hc : trim ys = c) (hne : a.length ≠ c.length) :
    Calls Try.prog 60 #[.slice p n cap, .slice q m cap'] w fun e w' => e = .returned (.int .i64 (sgn (decide (c.length < a.length)))) ∧ ∃ n, w' = w.drewN n := by
  have Hx := Lib.hid hx
  have Hy := Lib.hid hy
  have Ha := Lib.hid ha
  have Hc := Lib.hid hc
  clear hx hy ha hc
  go_enter Try.func60, Try.ntmps60
  go_wp2_with fail
  refine (trim_to Hx.out Ha.out).mono ?_
  rintro e w' ⟨rfl, rfl⟩
  go_wp2_with fail
  refine (trim_to Hy.out Hc.out).mono ?_
  rintro e w' ⟨rfl, rfl⟩
  go_wp2_with fail
  refine (sign_any _ _).mono ?_
  rintro e w' ⟨rfl, rfl⟩
  go_wp2_with fail
  go_ret
  exact ⟨rfl, 0, rfl⟩

set_option maxHeartbeats 400000 in
theorem cmp_nil (p q : Option Addr) (n m cap cap' : Nat) (xs ys : List Nat) (w : World) (hx : Sl w .u32 (.slice p n cap) xs) (hy : Sl w .u32 (.slice q m cap') ys)
    (ha : trim xs = []) (hc : trim ys = []) :
    Calls Try.prog 60 #[.slice p n cap, .slice q m cap'] w fun e w' => e = .returned (.int .i64 0) ∧ ∃ n, w' = w.drewN n := by
  have Hx := Lib.hid hx
  have Hy := Lib.hid hy
  have Ha := Lib.hid ha
  have Hc := Lib.hid hc
  clear hx hy ha hc
  go_enter Try.func60, Try.ntmps60
  go_wp2_with fail
  refine (trim_to Hx.out Ha.out).mono ?_
  rintro e w' ⟨rfl, rfl⟩
  go_wp2_with fail
  refine (trim_to Hy.out Hc.out).mono ?_
  rintro e w' ⟨rfl, rfl⟩
  go_wp2_with fail
  refine wp_loop_rounds 1 ?_
  rw [rounds_succ]
  go_wp2
  go_ret
  exact ⟨rfl, 0, rfl⟩

set_option maxHeartbeats 400000 in
theorem cmp_eq (b off cap b' off' cap' m n: Nat) (xs ys a c : List Nat) (w : World) (hx : Sl w .u32 (.slice (some ⟨b, off, none⟩) n cap) xs) (hy : Sl w .u32 (.slice (some ⟨b', off', none⟩) m cap') ys)
    (ha : trim xs = a) (hc : trim ys = c) (heq : a.length = c.length) (hlen : a.length ≤ 9223372036854775807)
    (hca : ∀ j, j < a.length → w.cell? ⟨b, off + j, none⟩ = some (.int .u32 (nth a j))) (hcc : ∀ j, j < c.length → w.cell? ⟨b', off' + j, none⟩ = some (.int .u32 (nth c j))) (all : All 4294967296 a) (all' : All 4294967296 c) :
    Calls Try.prog 60 #[.slice (some ⟨b, off, none⟩) n cap, .slice (some ⟨b', off', none⟩) m cap'] w fun e w' => e = .returned (.int .i64 (cmpN (val 4294967296 a) (val 4294967296 c))) ∧ ∃ n, w' = w.drewN n := by
  have Hx := Lib.hid hx
  have Hy := Lib.hid hy
  have Ha := Lib.hid ha
  have Hc := Lib.hid hc
  have He := Lib.hid heq
  have L1 : a.length ≤ c.length := by omega
  have L2 : c.length ≤ a.length := by omega
  have Al := Lib.hid all
  have Al' := Lib.hid all'
  clear hx hy ha hc heq all all'
  go_enter Try.func60, Try.ntmps60
  go_wp2_with fail
  refine (trim_to Hx.out Ha.out).mono ?_
  rintro e w' ⟨rfl, rfl⟩
  go_wp2_with fail
  refine (trim_to Hy.out Hc.out).mono ?_
  rintro e w' ⟨rfl, rfl⟩
  rw [← He.out]
  go_wp2_with fail
  go_loopw [5] (fun i wr => ∃ (k n : Nat) (q : Int), k ≤ a.length ∧ i = .int .i64 q ∧ q = (k : Int) - 1 ∧ wr = w.drewN n ∧ a.drop k = c.drop k) (fun i _ => (intOf i + 1).toNat)
  case atStart => exact ⟨a.length, 0, _, Nat.le_refl _, rfl, rfl, rfl, by rw [List.drop_length, He.out, List.drop_length]⟩
  case round =>
    obtain ⟨k, d, q, hk, rfl, hq, rfl, hdr⟩ := hrel
    have HD := Lib.hid hdr
    clear hdr
    cases k with
    | zero =>
      obtain rfl : q = -1 := by omega
      clear hq
      go_wp2
      go_ret
      refine ⟨?_, _, rfl⟩
      have : a = c := by simpa using HD.out
      simp [cmpN, this]
    | succ k =>
      obtain rfl : q = (k : Int) := by omega
      clear hq
      have ka := hca k (by omega)
      have kc := hcc k (by omega)
      clear hca hcc
      have b1 : (k : Int) < (a.length : Int) := by omega
      by_cases hne : nth a k = nth c k
      · have hb : (((nth a k : Nat) : Int) != ((nth c k : Nat) : Int)) = false := by rw [hne]; simp
        have HE := Lib.hid hne
        clear hne
        go_wp2
        go_quiet (fail)
        go_wp2
        go_roundw
        case rel => exact ⟨k, _, _, by omega, rfl, rfl, rfl, by rw [drop_step a (by omega), drop_step c (by omega), HE.out, HD.out]⟩
        case measure => simp [intOf]
      · have hb : (((nth a k : Nat) : Int) != ((nth c k : Nat) : Int)) = true := by rw [bne_iff_ne]; omega
        go_wp2
        go_quiet (fail)
        go_wp2
        have ka2 : ((w.drewN d).drewN nq).cell? ⟨b, off + k, none⟩ = some (.int .u32 (nth a k)) := ka
        have kc2 : ((w.drewN d).drewN nq).cell? ⟨b', off' + k, none⟩ = some (.int .u32 (nth c k)) := kc
        generalize hw2 : (w.drewN d).drewN nq = w2 at *
        have Hw2 := Lib.hid hw2
        clear hw2
        go_quiet ((go_at_call 79; refine Calls.quiet_of_same ((sign_any _ _).mono fun _ _ h => ⟨h.1, h.2.symm⟩)))
        go_wp2
        go_ret
        obtain rfl := Hw2.out
        refine ⟨ret_int ?_, _, by rw [World.drewN_drewN, World.drewN_drewN]⟩
        rcases Nat.lt_or_ge (nth a k) (nth c k) with h | h
        · rw [cmpN_lt (val_lt_at (by omega) (by omega) HD.out Al.out h), sgn_no (by omega)]
        · rw [cmpN_gt (val_lt_at (by omega) (by omega) HD.out.symm Al'.out (by omega)), sgn_yes (by omega)]

/-- Cmp of two rows of limbs. -/
theorem Cmp_any {v u : Value} {xs ys : List Nat} {w : World} (hx : Sl w .u32 v xs) (hy : Sl w .u32 u ys) (ax : All 4294967296 xs) (ay : All 4294967296 ys) :
    Calls Try.prog 60 #[v, u] w fun e w' => e = .returned (.int .i64 (cmpN (val 4294967296 xs) (val 4294967296 ys))) ∧ ∃ n, w' = w.drewN n := by
  have tx := hx
  have ty := hy
  obtain ⟨p, cap, rfl, h1, h2, h3⟩ := hx
  obtain ⟨p', cap', rfl, h1', h2', h3'⟩ := hy
  have ex : val 4294967296 (trim xs) = val 4294967296 xs := trim_val xs
  have ey : val 4294967296 (trim ys) = val 4294967296 ys := trim_val ys
  have dx := trim_eq (by omega) ax
  have dy := trim_eq (by omega) ay
  have lx : (trim xs).length ≤ xs.length := by rw [trim_len]; exact trimTo_le _ _
  have ly : (trim ys).length ≤ ys.length := by rw [trim_len]; exact trimTo_le _ _
  by_cases hl : (trim xs).length = (trim ys).length
  · by_cases h0 : (trim xs).length = 0
    · have a0 : trim xs = [] := List.eq_nil_of_length_eq_zero h0
      have b0 : trim ys = [] := List.eq_nil_of_length_eq_zero (hl ▸ h0)
      refine (cmp_nil p p' _ _ cap cap' xs ys w tx ty a0 b0).mono ?_
      rintro e w' ⟨rfl, hw⟩
      refine ⟨?_, hw⟩
      rw [← ex, ← ey, a0, b0, cmpN_eq]
    · rcases h3 with h3 | ⟨b, off, rfl, h4, h5⟩
      · subst h3; simp [trim] at h0
      rcases h3' with h3' | ⟨b', off', rfl, h4', h5'⟩
      · subst h3'; exact absurd hl h0
      have q := cmp_eq b off cap b' off' cap' ys.length xs.length xs ys (trim xs) (trim ys) w tx ty rfl rfl hl (by omega)
        (fun j hj => by rw [h5 j (by omega), trim, nth_take _ (by rw [← trim_len]; omega)]) (fun j hj => by rw [h5' j (by omega), trim, nth_take _ (by rw [← trim_len]; omega)])
        (ax.take _) (ay.take _)
      rw [ex, ey] at q
      exact q
  · refine (cmp_len p p' _ _ cap cap' xs ys _ _ w tx ty rfl rfl hl).mono ?_
    rintro e w' ⟨rfl, hw⟩
    refine ⟨?_, hw⟩
    congr 2
    rcases Nat.lt_or_ge (trim xs).length (trim ys).length with h | h
    · have : val 4294967296 xs < val 4294967296 ys := by rw [dx, dy] at h; exact dig_len_lt (by omega) h
      rw [cmpN_lt this, sgn_no (by omega)]
    · have hlt : (trim ys).length < (trim xs).length := by omega
      have : val 4294967296 ys < val 4294967296 xs := by rw [dx, dy] at hlt; exact dig_len_lt (by omega) hlt
      rw [cmpN_gt this, sgn_yes (by omega)]

end Go.Proofs.Ytmmmpdpgkjcohaa

