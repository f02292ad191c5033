/- Package limb, the readers: trim, sign, Cmp: each returns what the numbers say and leaves memory as it was. Package limb: Norm: new memory, the same number, no 0s on top. Package limb: addTo, Sum, Add: the sum of rows of limbs. Package limb: Sum, Add: the sum of rows of limbs, without 0s on top. Package limb: Add; what wakes in each statement: Sub and DivMod come later. Package limb: Sub: the difference, or that there is none. Package limb: shiftUp, shiftDown: rows moved by less than a limb, in place. Package limb: shiftDown; Shl, Shr, Bits. Package limb: mulAdd, Mul: products of rows of limbs. Package limb: Mul; division by one limb. Package limb: DivMod where the divisor is 0, is greater, or has one limb. Package orrerykeep: Row, Same, Within. A literal of one number; what a bool function hands back. -/
import Derived.Test.YteblgmjpociffaaBase
import Derived.Deep.QuietTactic
import Derived.BigQuiet
namespace Go.Proofs.Yteblgmjpociffaa
open Go.RowKit

def lenOf : Value → Nat | .slice _ n _ => n | _ => 0

theorem bool_eq0 {x : Nat} (h : x = 0) : (((x : Nat) : Int) == 0) = true := by subst h; rfl
theorem bool_ne0 {x : Nat} (h : ¬ x = 0) : (((x : Nat) : Int) == 0) = false := by
  rw [beq_eq_false_iff_ne]; omega

set_option maxHeartbeats 400000 in
theorem trim_some (b off n cap : Nat) (xs : List Nat) (w : World) (hn : n ≤ xs.length) (hcap : n ≤ cap) (hm : cap ≤ 9223372036854775807)
    (hc : ∀ j, j < xs.length → w.cell? ⟨b, off + j, none⟩ = some (.int .u32 (nth xs j))) :
    Calls Try.prog 97 #[.slice (some ⟨b, off, none⟩) n cap] w fun e w' => e = .returned (.slice (some ⟨b, off, none⟩) (trimTo xs n) cap) ∧ w = w' := by
  go_enter Try.func97, Try.ntmps97
  go_wp2
  go_loop [0] (fun v => ∃ k : Nat, k ≤ n ∧ v = .slice (some ⟨b, off, none⟩) k cap ∧ trimTo xs k = trimTo xs n) (fun v => lenOf v)
  case atStart => exact ⟨n, by omega, rfl, rfl⟩
  case round =>
    obtain ⟨k, hk, rfl, ht⟩ := hrel
    have HT := Lib.hid ht
    clear ht
    cases k with
    | zero =>
      go_wp2
      go_ret
      exact ⟨by rw [← HT.out]; rfl, rfl⟩
    | succ k =>
      have hcell := hc k (by omega)
      clear hc
      have hkc : k ≤ cap := by omega
      by_cases h0 : nth xs k = 0
      · have hb := bool_eq0 h0
        have HZ := Lib.hid h0
        clear h0
        go_wp2
        go_round
        case rel => exact ⟨k, by omega, rfl, by rw [← HT.out]; simp [trimTo, HZ.out]⟩
        case measure => simp [lenOf]
      · have hb := bool_ne0 h0
        go_wp2
        go_ret
        exact ⟨by rw [← HT.out]; simp [trimTo, h0], rfl⟩

set_option maxHeartbeats 400000 in
theorem trim_empty (p : Option Addr) (cap : Nat) (w : World) :
    Calls Try.prog 97 #[.slice p 0 cap] w fun e w' => e = .returned (.slice p 0 cap) ∧ w = w' := by
  go_enter Try.func97, Try.ntmps97
  go_wp2
  refine wp_loop_rounds 1 ?_
  rw [rounds_succ]
  go_wp2
  go_ret
  exact ⟨rfl, rfl⟩

theorem trim_any (p : Option Addr) (n cap : Nat) (xs : List Nat) (w : World) (h : Sl w .u32 (.slice p n cap) xs) :
    Calls Try.prog 97 #[.slice p n cap] w fun e w' => e = .returned (.slice p (trim xs).length cap) ∧ w = w' := by
  obtain ⟨p', cap', e, h1, h2, h3⟩ := h
  simp only [Value.slice.injEq] at e
  obtain ⟨rfl, rfl, rfl⟩ := e
  rw [trim_len]
  rcases h3 with rfl | ⟨b, off, rfl, h4, h5⟩
  · exact trim_empty _ _ _
  · exact trim_some b off xs.length cap xs w (Nat.le_refl _) h1 h2 h5

theorem sign_true (w : World) : Calls Try.prog 100 #[.bool true] w fun e w' => e = .returned (.int .i64 1) ∧ w = w' := by
  go_enter Try.func100, Try.ntmps100
  go_wp2
  go_ret
  exact ⟨rfl, rfl⟩
theorem sign_false (w : World) : Calls Try.prog 100 #[.bool false] w fun e w' => e = .returned (.int .i64 (-1)) ∧ w = w' := by
  go_enter Try.func100, Try.ntmps100
  go_wp2
  go_ret
  exact ⟨rfl, rfl⟩
def sgn : Bool → Int | true => 1 | false => -1
theorem sgn_yes {p : Prop} [Decidable p] (h : p) : sgn (decide p) = 1 := by rw [decide_eq_true h]; rfl
theorem sgn_no {p : Prop} [Decidable p] (h : ¬ p) : sgn (decide p) = -1 := by rw [decide_eq_false h]; rfl
theorem sign_any (b : Bool) (w : World) : Calls Try.prog 100 #[.bool b] w fun e w' => e = .returned (.int .i64 (sgn b)) ∧ w = w' := by
  cases b
  · exact sign_false w
  · exact sign_true w

theorem trim_to {p : Option Addr} {n cap : Nat} {xs a : List Nat} {w : World} (h : Sl w .u32 (.slice p n cap) xs) (ha : trim xs = a) :
    Calls Try.prog 97 #[.slice p n cap] w fun e w' => e = .returned (.slice p a.length cap) ∧ w = w' := by
  subst ha
  exact trim_any p n cap xs w h

set_option maxHeartbeats 400000 in
theorem cmp_len (p q : Option Addr) (n m cap cap' : Nat) (xs ys a c : List Nat) (w : World) (hx : Sl w .u32 (.slice p n cap) xs) (hy : Sl w .u32 (.slice q m cap') ys)
    (ha : trim xs = a) (hc : trim ys = c) (hne : a.length ≠ c.length) :
    Calls Try.prog 84 #[.slice p n cap, .slice q m cap'] w fun e w' => e = .returned (.int .i64 (sgn (decide (c.length < a.length)))) ∧ ∃ n, w' = w.drewN n := by
  have Hx := Lib.hid hx
  have Hy := Lib.hid hy
  have Ha := Lib.hid ha
  have Hc := Lib.hid hc
  clear hx hy ha hc
  go_enter Try.func84, Try.ntmps84
  go_wp2_with fail
  refine (trim_to Hx.out Ha.out).mono ?_
  rintro e w' ⟨rfl, rfl⟩
  go_wp2_with fail
  refine (trim_to Hy.out Hc.out).mono ?_
  rintro e w' ⟨rfl, rfl⟩
  go_wp2_with fail
  refine (sign_any _ _).mono ?_
  rintro e w' ⟨rfl, rfl⟩
  go_wp2_with fail
  go_ret
  exact ⟨rfl, 0, rfl⟩

set_option maxHeartbeats 400000 in
theorem cmp_nil (p q : Option Addr) (n m cap cap' : Nat) (xs ys : List Nat) (w : World) (hx : Sl w .u32 (.slice p n cap) xs) (hy : Sl w .u32 (.slice q m cap') ys)
    (ha : trim xs = []) (hc : trim ys = []) :
    Calls Try.prog 84 #[.slice p n cap, .slice q m cap'] w fun e w' => e = .returned (.int .i64 0) ∧ ∃ n, w' = w.drewN n := by
  have Hx := Lib.hid hx
  have Hy := Lib.hid hy
  have Ha := Lib.hid ha
  have Hc := Lib.hid hc
  clear hx hy ha hc
  go_enter Try.func84, Try.ntmps84
  go_wp2_with fail
  refine (trim_to Hx.out Ha.out).mono ?_
  rintro e w' ⟨rfl, rfl⟩
  go_wp2_with fail
  refine (trim_to Hy.out Hc.out).mono ?_
  rintro e w' ⟨rfl, rfl⟩
  go_wp2_with fail
  refine wp_loop_rounds 1 ?_
  rw [rounds_succ]
  go_wp2
  go_ret
  exact ⟨rfl, 0, rfl⟩

set_option maxHeartbeats 400000 in
theorem cmp_eq (b off cap b' off' cap' m n: Nat) (xs ys a c : List Nat) (w : World) (hx : Sl w .u32 (.slice (some ⟨b, off, none⟩) n cap) xs) (hy : Sl w .u32 (.slice (some ⟨b', off', none⟩) m cap') ys)
    (ha : trim xs = a) (hc : trim ys = c) (heq : a.length = c.length) (hlen : a.length ≤ 9223372036854775807)
    (hca : ∀ j, j < a.length → w.cell? ⟨b, off + j, none⟩ = some (.int .u32 (nth a j))) (hcc : ∀ j, j < c.length → w.cell? ⟨b', off' + j, none⟩ = some (.int .u32 (nth c j))) (all : All 4294967296 a) (all' : All 4294967296 c) :
    Calls Try.prog 84 #[.slice (some ⟨b, off, none⟩) n cap, .slice (some ⟨b', off', none⟩) m cap'] w fun e w' => e = .returned (.int .i64 (cmpN (val 4294967296 a) (val 4294967296 c))) ∧ ∃ n, w' = w.drewN n := by
  have Hx := Lib.hid hx
  have Hy := Lib.hid hy
  have Ha := Lib.hid ha
  have Hc := Lib.hid hc
  have He := Lib.hid heq
  have L1 : a.length ≤ c.length := by omega
  have L2 : c.length ≤ a.length := by omega
  have Al := Lib.hid all
  have Al' := Lib.hid all'
  clear hx hy ha hc heq all all'
  go_enter Try.func84, Try.ntmps84
  go_wp2_with fail
  refine (trim_to Hx.out Ha.out).mono ?_
  rintro e w' ⟨rfl, rfl⟩
  go_wp2_with fail
  refine (trim_to Hy.out Hc.out).mono ?_
  rintro e w' ⟨rfl, rfl⟩
  rw [← He.out]
  go_wp2_with fail
  go_loopw [5] (fun i wr => ∃ (k n : Nat) (q : Int), k ≤ a.length ∧ i = .int .i64 q ∧ q = (k : Int) - 1 ∧ wr = w.drewN n ∧ a.drop k = c.drop k) (fun i _ => (intOf i + 1).toNat)
  case atStart => exact ⟨a.length, 0, _, Nat.le_refl _, rfl, rfl, rfl, by rw [List.drop_length, He.out, List.drop_length]⟩
  case round =>
    obtain ⟨k, d, q, hk, rfl, hq, rfl, hdr⟩ := hrel
    have HD := Lib.hid hdr
    clear hdr
    cases k with
    | zero =>
      obtain rfl : q = -1 := by omega
      clear hq
      go_wp2
      go_ret
      refine ⟨?_, _, rfl⟩
      have : a = c := by simpa using HD.out
      simp [cmpN, this]
    | succ k =>
      obtain rfl : q = (k : Int) := by omega
      clear hq
      have ka := hca k (by omega)
      have kc := hcc k (by omega)
      clear hca hcc
      have b1 : (k : Int) < (a.length : Int) := by omega
      by_cases hne : nth a k = nth c k
      · have hb : (((nth a k : Nat) : Int) != ((nth c k : Nat) : Int)) = false := by rw [hne]; simp
        have HE := Lib.hid hne
        clear hne
        go_wp2
        go_quiet (fail)
        go_wp2
        go_roundw
        case rel => exact ⟨k, _, _, by omega, rfl, rfl, rfl, by rw [drop_step a (by omega), drop_step c (by omega), HE.out, HD.out]⟩
        case measure => simp [intOf]
      · have hb : (((nth a k : Nat) : Int) != ((nth c k : Nat) : Int)) = true := by rw [bne_iff_ne]; omega
        go_wp2
        go_quiet (fail)
        go_wp2
        have ka2 : ((w.drewN d).drewN nq).cell? ⟨b, off + k, none⟩ = some (.int .u32 (nth a k)) := ka
        have kc2 : ((w.drewN d).drewN nq).cell? ⟨b', off' + k, none⟩ = some (.int .u32 (nth c k)) := kc
        generalize hw2 : (w.drewN d).drewN nq = w2 at *
        have Hw2 := Lib.hid hw2
        clear hw2
        go_quiet ((go_at_call 100; refine Calls.quiet_of_same ((sign_any _ _).mono fun _ _ h => ⟨h.1, h.2.symm⟩)))
        go_wp2
        go_ret
        obtain rfl := Hw2.out
        refine ⟨ret_int ?_, _, by rw [World.drewN_drewN, World.drewN_drewN]⟩
        rcases Nat.lt_or_ge (nth a k) (nth c k) with h | h
        · rw [cmpN_lt (val_lt_at (by omega) (by omega) HD.out Al.out h), sgn_no (by omega)]
        · rw [cmpN_gt (val_lt_at (by omega) (by omega) HD.out.symm Al'.out (by omega)), sgn_yes (by omega)]

/-- Cmp of two rows of limbs. -/
theorem Cmp_any {v u : Value} {xs ys : List Nat} {w : World} (hx : Sl w .u32 v xs) (hy : Sl w .u32 u ys) (ax : All 4294967296 xs) (ay : All 4294967296 ys) :
    Calls Try.prog 84 #[v, u] w fun e w' => e = .returned (.int .i64 (cmpN (val 4294967296 xs) (val 4294967296 ys))) ∧ ∃ n, w' = w.drewN n := by
  have tx := hx
  have ty := hy
  obtain ⟨p, cap, rfl, h1, h2, h3⟩ := hx
  obtain ⟨p', cap', rfl, h1', h2', h3'⟩ := hy
  have ex : val 4294967296 (trim xs) = val 4294967296 xs := trim_val xs
  have ey : val 4294967296 (trim ys) = val 4294967296 ys := trim_val ys
  have dx := trim_eq (by omega) ax
  have dy := trim_eq (by omega) ay
  have lx : (trim xs).length ≤ xs.length := by rw [trim_len]; exact trimTo_le _ _
  have ly : (trim ys).length ≤ ys.length := by rw [trim_len]; exact trimTo_le _ _
  by_cases hl : (trim xs).length = (trim ys).length
  · by_cases h0 : (trim xs).length = 0
    · have a0 : trim xs = [] := List.eq_nil_of_length_eq_zero h0
      have b0 : trim ys = [] := List.eq_nil_of_length_eq_zero (hl ▸ h0)
      refine (cmp_nil p p' _ _ cap cap' xs ys w tx ty a0 b0).mono ?_
      rintro e w' ⟨rfl, hw⟩
      refine ⟨?_, hw⟩
      rw [← ex, ← ey, a0, b0, cmpN_eq]
    · rcases h3 with h3 | ⟨b, off, rfl, h4, h5⟩
      · subst h3; simp [trim] at h0
      rcases h3' with h3' | ⟨b', off', rfl, h4', h5'⟩
      · subst h3'; exact absurd hl h0
      have q := cmp_eq b off cap b' off' cap' ys.length xs.length xs ys (trim xs) (trim ys) w tx ty rfl rfl hl (by omega)
        (fun j hj => by rw [h5 j (by omega), trim, nth_take _ (by rw [← trim_len]; omega)]) (fun j hj => by rw [h5' j (by omega), trim, nth_take _ (by rw [← trim_len]; omega)])
        (ax.take _) (ay.take _)
      rw [ex, ey] at q
      exact q
  · refine (cmp_len p p' _ _ cap cap' xs ys _ _ w tx ty rfl rfl hl).mono ?_
    rintro e w' ⟨rfl, hw⟩
    refine ⟨?_, hw⟩
    congr 2
    rcases Nat.lt_or_ge (trim xs).length (trim ys).length with h | h
    · have : val 4294967296 xs < val 4294967296 ys := by rw [dx, dy] at h; exact dig_len_lt (by omega) h
      rw [cmpN_lt this, sgn_no (by omega)]
    · have hlt : (trim ys).length < (trim xs).length := by omega
      have : val 4294967296 ys < val 4294967296 xs := by rw [dx, dy] at hlt; exact dig_len_lt (by omega) hlt
      rw [cmpN_gt this, sgn_yes (by omega)]

end Go.Proofs.Yteblgmjpociffaa


namespace Go.Proofs.Yteblgmjpociffaa
open Go.RowKit

theorem Try.infoU : (Try.prog.info? 73).map (fun i => (i.zero, i.size, i.bytes)) = some (some (.int .u32 0), 1, 4) := by kernel_rfl
theorem Try.sizeU : (Try.prog.info? 73).map (·.size) = some 1 := by kernel_rfl
theorem Try.infoI : (Try.prog.info? 3).map (fun i => (i.zero, i.size, i.bytes)) = some (some (.int .i64 0), 1, 8) := by kernel_rfl
theorem Try.sizeI : (Try.prog.info? 3).map (·.size) = some 1 := by kernel_rfl

/-- A new list of limbs (or digits) was handed back, and nothing that was there has turned. -/
def Made (e : TypeId) (k : IntKind) (w : World) (xs : List Nat) (en : Ending) (w' : World) : Prop :=
  ∃ v, en = .returned v ∧ Own w' e k w.heap.size v xs ∧ w.grownBy w' none

/-- The same, the slice's address told. -/
def MadeAt (e : TypeId) (k : IntKind) (w : World) (xs : List Nat) (en : Ending) (w' : World) : Prop :=
  ∃ g cap, en = .returned (.slice (some ⟨g, 0, none⟩) xs.length cap) ∧ Own w' e k w.heap.size (.slice (some ⟨g, 0, none⟩) xs.length cap) xs ∧ w.grownBy w' none

set_option maxHeartbeats 400000 in
theorem Norm_at {v : Value} {xs : List Nat} {w : World} (hx : Sl w .u32 v xs) (hlen : xs.length ≤ 17592186044416) :
    Calls Try.prog 80 #[v] w (MadeAt 73 .u32 w (trim xs)) := by
  obtain ⟨p, cap, rfl, h1, h2, h3⟩ := id hx
  have hl : (trim xs).length ≤ xs.length := by rw [trim_len]; exact trimTo_le _ _
  have ht : Sl w .u32 (.slice p (trim xs).length cap) (trim xs) := by
    have := hx.take _ hl
    rwa [show xs.take (trim xs).length = trim xs by rw [trim_len]; rfl] at this
  obtain ⟨i0, hi, hz0, hz1, hz2⟩ := info_parts Try.infoU
  obtain ⟨a, ha⟩ : ∃ a, trim xs = a := ⟨_, rfl⟩
  rw [ha] at ht hl ⊢
  have Hx := Lib.hid hx
  have Ht := Lib.hid ht
  have Ha := Lib.hid ha
  clear hx ht ha h3
  go_enter Try.func80, Try.ntmps80
  go_wp2_with fail
  refine (trim_to Hx.out Ha.out).mono ?_
  rintro e w' ⟨rfl, rfl⟩
  go_wp2_with (first
    | (at_make; refine wp_make rfl _ _ 34 rfl 73 i0 (.int .u32 0) Try.underlying34 hi hz0 hz1 (by omega) rfl _ _ _ _ a.length a.length rfl rfl rfl rfl (Nat.le_refl _) (by omega) ?_; intro w1 r1 g1 s1)
    | ((with_reducible refine wp_copy rfl (.tmp 9) (.tmp 10) 34 34 rfl 73 Try.underlying34 Try.sizeU .u32 p w.heap.size 0 a.length a.length a.length a.length a.length cap (fun _ => .int .u32 0) a rfl rfl (Ht.out.grown g1 (.inl rfl)) r1 (Nat.min_self _).symm (by omega) ?_); intro w2 r2 g2 s2))
  go_ret
  refine ⟨_, _, rfl, .inr ⟨_, _, _, rfl, Nat.le_refl _, r2, Nat.le_refl _, by omega, fun j hj => lay_in0 _ _ _ hj⟩, grown_new g1 g2 (Nat.le_refl _)⟩

theorem Norm_any {v : Value} {xs : List Nat} {w : World} (hx : Sl w .u32 v xs) (hlen : xs.length ≤ 17592186044416) :
    Calls Try.prog 80 #[v] w (Made 73 .u32 w (trim xs)) :=
  (Norm_at hx hlen).mono fun _ _ ⟨_, _, h1, h2, h3⟩ => ⟨_, h1, h2, h3⟩

end Go.Proofs.Yteblgmjpociffaa

namespace Go.Proofs.Yteblgmjpociffaa
open Go.RowKit

/-- What addTo hands back. -/
def Added (B g : Nat) (w : World) (xs ys : List Nat) (en : Ending) (w' : World) : Prop :=
  ∃ g' cap' zs, en = .returned (.slice (some ⟨g', 0, none⟩) zs.length cap') ∧ Own w' 73 .u32 B (.slice (some ⟨g', 0, none⟩) zs.length cap') zs ∧ All 4294967296 zs ∧
    val 4294967296 zs = val 4294967296 xs + val 4294967296 ys ∧ xs.length ≤ zs.length ∧ zs.length ≤ xs.length + 1 ∧ (zs.length = xs.length ∨ 4294967296 ^ (zs.length - 1) ≤ val 4294967296 zs) ∧ w.grownBy w' (some g)

theorem slice_len {p q : Option Addr} {n m cap cap' : Nat} (h : Value.slice p n cap = .slice q m cap') : n = m := by cases h; rfl

/-- The end without a carry. -/
theorem added_done {B g cap k : Nat} {w wr : World} {c : Nat → Value} {xs ys : List Nat} (hB : B ≤ g) (hle : xs.length ≤ cap) (hcap : cap ≤ 9223372036854775807)
    (hx : ∀ j, j < xs.length → c j = .int .u32 (nth xs j)) (hk : k ≤ xs.length) (hky : ys.length ≤ k) (ax : All 4294967296 xs)
    (h0 : addC 4294967296 (nth xs) (nth ys) k = 0)
    (hr : RowF wr 73 g cap (lay c 0 k .u32 (pre (addD 4294967296 (nth xs) (nth ys)) xs.length))) (hg : w.grownBy wr (some g)) :
    Added B g w xs ys (.returned (.slice (some ⟨g, 0, none⟩) xs.length cap)) wr := by
  have hz : ∀ d, k + d ≤ xs.length → addC 4294967296 (nth xs) (nth ys) (k + d) = 0 := by
    intro d
    induction d with
    | zero => intro _; exact h0
    | succ d ih =>
      intro hd
      rw [← Nat.add_assoc]
      simp only [addC]
      rw [ih (by omega), nth_out ys (by omega)]
      have := nth_lt (by omega) ax (k + d)
      omega
  have hd : ∀ j, k ≤ j → j < xs.length → addD 4294967296 (nth xs) (nth ys) j = nth xs j := by
    intro j h1 h2
    have e := hz (j - k) (by omega)
    rw [show k + (j - k) = j by omega] at e
    have := nth_lt (by omega) ax j
    simp only [addD]
    rw [e, nth_out ys (by omega)]
    omega
  have hl : (pre (addD 4294967296 (nth xs) (nth ys)) xs.length).length = xs.length := pre_len _ _
  refine ⟨g, cap, pre (addD 4294967296 (nth xs) (nth ys)) xs.length, by rw [hl], .inr ⟨g, cap, _, rfl, hB, hr, by omega, hcap, fun j hj => ?_⟩, pre_all (fun j _ => addD_lt (by omega) _ _ _), ?_, by omega, by omega, .inl hl, hg⟩
  · rw [hl] at hj
    rw [pre_nth _ hj]
    by_cases hjk : j < k
    · rw [lay_in0 _ _ _ hjk, pre_nth _ hj]
    · rw [lay_out _ _ _ (by omega), hx j hj, hd j (by omega) hj]
  · have e := add_val 4294967296 (nth xs) (nth ys) xs.length
    have e0 := hz (xs.length - k) (by omega)
    rw [show k + (xs.length - k) = xs.length by omega] at e0
    rw [e0, val_pre_more _ xs (Nat.le_refl _), val_pre_more _ ys (by omega)] at e
    simpa using e

/-- The end with a carry. -/
theorem added_more {B g : Nat} {w wr w' : World} {v' : Value} {xs ys : List Nat} (hky : ys.length ≤ xs.length)
    (h0 : addC 4294967296 (nth xs) (nth ys) xs.length = 1) (hg : w.grownBy wr (some g)) (hg' : wr.grownBy w' (some g))
    (ho : Own w' 73 .u32 B v' (pre (addD 4294967296 (nth xs) (nth ys)) xs.length ++ [1])) :
    Added B g w xs ys (.returned v') w' := by
  have hl : (pre (addD 4294967296 (nth xs) (nth ys)) xs.length ++ [1]).length = xs.length + 1 := by simp [pre_len]
  rcases id ho with ⟨_, h⟩ | ⟨g', cap', c, rfl, _⟩
  · simp at h
  refine ⟨g', cap', _, rfl, ho, (pre_all (fun j _ => addD_lt (by omega) _ _ _)).app (All.cons (by omega) (All.nil _)), ?_, by omega, by omega, .inr ?_, grown_trans hg hg'⟩
  · have e := add_val 4294967296 (nth xs) (nth ys) xs.length
    rw [h0, val_pre_more _ xs (Nat.le_refl _), val_pre_more _ ys (by omega)] at e
    rw [val_snoc, pre_len]
    exact e
  · rw [hl, val_snoc, pre_len, Nat.add_sub_cancel]
    omega

set_option maxHeartbeats 1000000 in
theorem addTo_any (g cap B : Nat) (vy : Value) (xs ys : List Nat) (w : World) (hown : Own w 73 .u32 B (.slice (some ⟨g, 0, none⟩) xs.length cap) xs) (hy : Sl w .u32 vy ys) (hne : ys ≠ [] → vy.ownBlock ≠ some g)
    (hl : ys.length ≤ xs.length) (ax : All 4294967296 xs) (ay : All 4294967296 ys) (hlen : xs.length < 17592186044416) (hB : B ≤ w.heap.size) :
    Calls Try.prog 102 #[.slice (some ⟨g, 0, none⟩) xs.length cap, vy] w (Added B g w xs ys) := by
  obtain ⟨p, capy, rfl, h1, h2, h3⟩ := hy
  rcases hown with ⟨h, _⟩ | ⟨g', cap', c, e, hBg, hr, hle, hcap, hx⟩
  · cases h
  simp only [Value.slice.injEq, Option.some.injEq, Addr.mk.injEq, and_true] at e
  obtain ⟨rfl, -, rfl⟩ := e
  obtain ⟨i0, hi, hz0, hz1, hz2⟩ := info_parts Try.infoU
  obtain ⟨n, hn⟩ : ∃ n, xs.length = n := ⟨_, rfl⟩
  obtain ⟨m, hm⟩ : ∃ m, ys.length = m := ⟨_, rfl⟩
  obtain ⟨Z, hZ⟩ : ∃ Z, pre (addD 4294967296 (nth xs) (nth ys)) xs.length = Z := ⟨_, rfl⟩
  have hZn : ∀ j, j < n → nth Z j = addD 4294967296 (nth xs) (nth ys) j := fun j hj => by rw [← hZ]; exact pre_nth _ (by omega)
  have hZl : Z.length = n := by rw [← hZ, pre_len, hn]
  have cz : ∀ k, k ≤ n → addC 4294967296 (nth xs) (nth ys) k ≤ 1 := fun k _ => addC_le (nth_lt (by omega) ax) (nth_lt (by omega) ay) k
  rw [hn] at hl hlen hle hx ⊢
  rw [hm] at hl h1 ⊢
  have Hn := Lib.hid hn
  have Hm := Lib.hid hm
  have HZ := Lib.hid hZ
  have HZn := Lib.hid hZn
  have HZl := Lib.hid hZl
  have Hx := Lib.hid hx
  have Ax := Lib.hid ax
  have Ay := Lib.hid ay
  have H3 := Lib.hid h3
  have Cz := Lib.hid cz
  have Hne := Lib.hid hne
  clear hn hm hZ hZn hZl hx ax ay h3 cz hne
  go_enter Try.func102, Try.ntmps102
  go_wp2_with fail
  go_loopw [5, 11] (fun cv i wr => ∃ k : Nat, k ≤ m ∧ i = .int .i64 k ∧ cv = .int .u64 (addC 4294967296 (nth xs) (nth ys) k) ∧ RowF wr 73 g cap (lay c 0 k .u32 Z) ∧ w.grownBy wr (some g)) (fun _ i _ => (m - (intOf i).toNat))
  case atStart => exact ⟨0, by omega, rfl, rfl, by rw [lay_zero]; exact hr, grown_refl _ _⟩
  case round =>
    obtain ⟨k, hk, rfl, rfl, rr, gr⟩ := hrel
    have hcr := Cz.out k (by omega)
    by_cases hlt : k < m
    · have c1 : wr.cell? ⟨g, k, none⟩ = some (.int .u32 (nth xs k)) := by
        rw [rr.cell (by omega), lay_out _ _ _ (by omega), Hx.out k (by omega)]
      rcases H3.out with h3 | ⟨b, off, rfl, hbl, hy⟩
      · have := Hm.out; rw [h3] at this; simp at this; omega
      have c2 : wr.cell? ⟨b, off + k, none⟩ = some (.int .u32 (nth ys k)) := by
        rw [World.cell?_of_block (w := w) (gr.block b hbl (by simpa [Value.ownBlock] using Hne.out (fun h => by have := Hm.out; rw [h] at this; simp at this; omega))), hy k (by rw [Hm.out]; omega)]
      clear hy
      have f1 : wr.frozen? ⟨g, k, none⟩ = false := rr.frozen k
      have b1 : nth xs k < 4294967296 := nth_lt (by omega) Ax.out k
      have b2 : nth ys k < 4294967296 := nth_lt (by omega) Ay.out k
      have i1 : (k : Int) < (n : Int) := by omega
      have HC := Lib.hid (show addC 4294967296 (nth xs) (nth ys) (k + 1) = (addC 4294967296 (nth xs) (nth ys) k + (nth xs k + nth ys k)) / 4294967296 from rfl)
      have HD := Lib.hid (show nth Z k = (addC 4294967296 (nth xs) (nth ys) k + (nth xs k + nth ys k)) % 4294967296 from HZn.out k (by omega))
      generalize addC 4294967296 (nth xs) (nth ys) k = cr at *
      go_wp2
      go_roundw
      case rel =>
        refine ⟨k + 1, by omega, by go_num, int_eq (by rw [HC.out]; omega), ?_, grown_trans gr (grown_set _ _ _ _)⟩
        rw [← lay_step0 c k .u32 Z rfl]
        have hv : Value.int .u32 (((cr : Int) + ((nth xs k : Nat) + (nth ys k : Nat) : Int)) % 4294967296) = .int .u32 (nth Z k) := int_eq (by rw [HD.out]; omega)
        rw [← hv]
        exact rr.set k _
      case measure => simp [intOf]; omega
    · obtain rfl : k = m := by omega
      generalize hcr0 : addC 4294967296 (nth xs) (nth ys) k = cr at *
      have HC0 := Lib.hid hcr0
      clear hcr0
      go_wp2
      go_loopw [8, 5] (fun i cv wr2 => ∃ q : Nat, k ≤ q ∧ q ≤ n ∧ i = .int .i64 q ∧ cv = .int .u64 (addC 4294967296 (nth xs) (nth ys) q) ∧ RowF wr2 73 g cap (lay c 0 q .u32 Z) ∧ w.grownBy wr2 (some g)) (fun i _ _ => (n - (intOf i).toNat))
      case atStart => exact ⟨k, Nat.le_refl _, by omega, rfl, by rw [HC0.out], rr, gr⟩
      case round =>
        obtain ⟨q, hq, hqn, rfl, rfl, rr2, gr2⟩ := hrel
        have hcq := Cz.out q hqn
        have HC := Lib.hid (show addC 4294967296 (nth xs) (nth ys) (q + 1) = (addC 4294967296 (nth xs) (nth ys) q + (nth xs q + nth ys q)) / 4294967296 from rfl)
        generalize hcr1 : addC 4294967296 (nth xs) (nth ys) q = cq at *
        have HC1 := Lib.hid hcr1
        clear hcr1
        by_cases h0 : cq = 0
        · obtain rfl := h0
          go_wp2
          go_ret
          have e := HZ.out
          rw [← e] at rr2
          have hn := Hn.out
          have hm := Hm.out
          subst hn
          exact added_done hBg hle hcap Hx.out hqn (by omega) Ax.out HC1.out rr2 gr2
        · obtain rfl : cq = 1 := by omega
          clear h0
          by_cases hlt2 : q < n
          · have c1 : wr.cell? ⟨g, q, none⟩ = some (.int .u32 (nth xs q)) := by
              rw [rr2.cell (by omega), lay_out _ _ _ (by omega), Hx.out q (by omega)]
            have f1 : wr.frozen? ⟨g, q, none⟩ = false := rr2.frozen q
            have b1 : nth xs q < 4294967296 := nth_lt (by omega) Ax.out q
            have i1 : (q : Int) < (n : Int) := by omega
            have t1 : ((q : Int) == (n : Int)) = false := by rw [beq_eq_false_iff_ne]; omega
            have y0 : nth ys q = 0 := nth_out ys (by rw [Hm.out]; omega)
            have HD := Lib.hid (show nth Z q = (1 + nth xs q) % 4294967296 by rw [HZn.out q hlt2, addD, HC1.out, y0]; rfl)
            have HC' := Lib.hid (show addC 4294967296 (nth xs) (nth ys) (q + 1) = (1 + nth xs q) / 4294967296 by rw [HC.out, y0]; rfl)
            clear y0
            have rr3 : RowF (wr.setCell ⟨g, q, none⟩ (.int .u32 (nth Z q))) 73 g cap (lay c 0 (q + 1) .u32 Z) := by
              rw [← lay_step0 c q .u32 Z rfl]
              exact rr2.set q _
            have RR3 := Lib.hid rr3
            clear rr3
            by_cases hz : nth xs q = 4294967295
            · have HZ0 : Hid (nth Z q = 0) := by show nth Z q = 0; rw [HD.out, hz]
              have HZ1 : Hid (addC 4294967296 (nth xs) (nth ys) (q + 1) = 1) := by show addC _ _ _ _ = 1; rw [HC'.out, hz]
              rw [hz] at c1
              go_wp2
              go_roundw
              case rel =>
                refine ⟨q + 1, by omega, by omega, by go_num, by rw [HZ1.out], ?_, grown_trans gr2 (grown_set _ _ _ _)⟩
                have e := RR3.out
                rw [HZ0.out] at e
                exact e
              case measure => simp [intOf]; omega
            · have hz' : nth xs q < 4294967295 := by omega
              have HZ0 : Hid (nth Z q = nth xs q + 1) := by show nth Z q = _; rw [HD.out]; omega
              have HZ1 : Hid (addC 4294967296 (nth xs) (nth ys) (q + 1) = 0) := by show addC _ _ _ _ = 0; rw [HC'.out]; omega
              have t2 : (((nth xs q : Nat) : Int) + 1 != 0) = true := by rw [bne_iff_ne]; omega
              go_wp2
              go_roundw
              case rel =>
                refine ⟨q + 1, by omega, by omega, by go_num, by rw [HZ1.out]; rfl, ?_, grown_trans gr2 (grown_set _ _ _ _)⟩
                have e := RR3.out
                rw [HZ0.out] at e
                exact e
              case measure => simp [intOf]; omega
          · obtain rfl : q = n := by omega
            have hown2 : Own wr 73 .u32 B (.slice (some ⟨g, 0, none⟩) q cap) Z := by
              have hzl := HZl.out
              exact .inr ⟨g, cap, _, by rw [hzl], hBg, rr2, by omega, hcap, fun j hj => lay_in0 _ _ _ (by omega)⟩
            have hs2 := gr2.size
            have Hl2 := Lib.hid (show Z.length < 17592186044416 by rw [HZl.out]; omega)
            go_wp2_with (at_builtin; refine wp_append1 rfl _ _ 34 rfl 73 i0 (.int .u32 0) .u32 Try.underlying34 hi hz0 hz1 (by omega) rfl B (.slice (some ⟨g, 0, none⟩) q cap) Z 1 rfl (hown2.grown (grown_alloc _ _ none) (.inl rfl)) wr.heap.size rfl ?c1 Hl2.out (by simp; omega) ?_; (case c1 => exact (World.cell?_alloc_at _ _ _ _ rfl).trans rfl); intro v' w3 ho3 g3)
            go_ret
            have e := HZ.out
            have hn := Hn.out
            have hm := Hm.out
            subst e
            subst hn
            exact added_more (by omega) HC1.out gr2 (grown_trans (grown_alloc _ _ _) g3) ho3
end Go.Proofs.Yteblgmjpociffaa

namespace Go.Proofs.Yteblgmjpociffaa
open Go.RowKit

/-- Between two summands. -/
structure SumInv (w wr : World) (lg k : Nat) (g cap : Nat) (tot : Nat) (zs : List Nat) : Prop where
  own : Own wr 73 .u32 w.heap.size (.slice (some ⟨g, 0, none⟩) zs.length cap) zs
  all : All 4294967296 zs
  sum : val 4294967296 zs = tot
  lo : lg ≤ zs.length
  hi : zs.length ≤ lg + k
  top : zs.length = lg ∨ 4294967296 ^ (zs.length - 1) ≤ val 4294967296 zs
  grown : w.grownBy wr none

theorem SumInv.start {w w1 : World} {lg : Nat} (hl : lg < 17592186044416) (r : RowF w1 73 w.heap.size (lg + 1) (fun _ => .int .u32 0)) (g : w.grownBy w1 none) :
    SumInv w w1 lg 0 w.heap.size (lg + 1) 0 (List.replicate lg 0) where
  own := by
    refine .inr ⟨_, _, _, rfl, Nat.le_refl _, r, by simp, by omega, fun j hj => ?_⟩
    simp at hj
    simp [nth, hj]
  all := All.rep (by omega) _
  sum := val_rep0 _ _
  lo := by simp
  hi := by simp
  top := .inl (by simp)
  grown := g

theorem SumInv.next {w wr w' : World} {lg k g cap tot : Nat} {zs ys : List Nat} {e : Ending} (h : SumInv w wr lg k g cap tot zs) (a : Added w.heap.size g wr zs ys e w') :
    ∃ g' cap' zs', e = .returned (.slice (some ⟨g', 0, none⟩) zs'.length cap') ∧ SumInv w w' lg (k + 1) g' cap' (tot + val 4294967296 ys) zs' := by
  obtain ⟨g', cap', zs', rfl, ho, ha, hv, h1, h2, h3, hg⟩ := a
  have hB := (h.own.lt g rfl).1
  refine ⟨g', cap', zs', rfl, ⟨ho, ha, by rw [hv, h.sum], by have := h.lo; omega, by have := h.hi; omega, ?_, grown_new h.grown hg hB⟩⟩
  rcases h3 with h3 | h3
  · rcases h.top with t | t
    · exact .inl (h3.trans t)
    · exact .inr (by rw [h3, hv]; omega)
  · exact .inr h3

theorem SumInv.done {w wr : World} {lg k g cap tot : Nat} {zs : List Nat} (h : SumInv w wr lg k g cap tot zs) (ht : lg ≠ 0 → 4294967296 ^ (lg - 1) ≤ tot) : zs = dig 4294967296 tot := by
  have t : Top zs := by
    refine top_of_val h.all ?_
    rcases h.top with t | t
    · by_cases h0 : lg = 0
      · exact .inl (List.eq_nil_of_length_eq_zero (by omega))
      · exact .inr (by rw [t, h.sum]; exact ht h0)
    · exact .inr t
  rw [← h.sum, dig_val (by omega) h.all t]

set_option maxHeartbeats 1000000 in
theorem Sum_any (v : Value) (n : Nat) (vs : Nat → Value) (ls : Nat → List Nat) (w : World) (hv : SlS w v n vs) (hs : ∀ j, j < n → Sl w .u32 (vs j) (ls j)) (ha : ∀ j, j < n → All 4294967296 (ls j))
    (M : Nat) (hM : ∀ j, j < n → (ls j).length ≤ M) (hlen : M + n < 17592186044416) :
    Calls Try.prog 88 #[v] w (Made 73 .u32 w (dig 4294967296 (sumF (fun j => val 4294967296 (ls j)) n))) := by
  obtain ⟨p, cap, rfl, h1, h2, h3⟩ := hv
  obtain ⟨i0, hi, hz0, hz1, hz2⟩ := info_parts Try.infoU
  obtain ⟨tl, htl⟩ : ∃ tl : Nat → Nat, tl = fun j => (trim (ls j)).length := ⟨_, rfl⟩
  obtain ⟨vl, hvl⟩ : ∃ vl : Nat → Nat, vl = fun j => val 4294967296 (ls j) := ⟨_, rfl⟩
  rw [← hvl]
  have tlM : ∀ j, j < n → tl j ≤ M := fun j hj => by
    rw [htl]
    have := hM j hj
    have := trimTo_le (ls j) (ls j).length
    show (trim (ls j)).length ≤ M
    rw [trim_len]; omega
  have mxM : ∀ k, k ≤ n → maxF tl k ≤ M := fun k hk => maxF_le _ fun j hj => tlM j (by omega)
  have Htl := Lib.hid htl
  have Hvl := Lib.hid hvl
  have Hs := Lib.hid hs
  have Ha := Lib.hid ha
  have H3 := Lib.hid h3
  have TlM := Lib.hid tlM
  have MxM := Lib.hid mxM
  have HM := Lib.hid hM
  clear htl hvl hs ha h3 tlM mxM hM
  go_enter Try.func88, Try.ntmps88
  go_wp2_with fail
  go_loopw [3, 11] (fun lv i wr => ∃ k : Nat, k ≤ n ∧ i = .int .i64 k ∧ lv = .int .i64 (maxF tl k) ∧ w = wr) (fun _ i _ => (n - (intOf i).toNat))
  case atStart => exact ⟨0, by omega, rfl, rfl, rfl⟩
  case round =>
    obtain ⟨k, hk, rfl, rfl, rfl⟩ := hrel
    by_cases hlt : k < n
    · rcases H3.out with h3 | ⟨b, off, rfl, hbl, hc⟩
      · omega
      obtain ⟨pk, capk, hvk, hk1, hk2, hk3⟩ := Hs.out k hlt
      have ck := hc k hlt
      rw [hvk] at ck
      have Sk := Lib.hid (hvk ▸ Hs.out k hlt)
      have HTk := Lib.hid (show (trim (ls k)).length = tl k by rw [Htl.out])
      have HX := Lib.hid (show maxF tl (k + 1) = max (maxF tl k) (tl k) from rfl)
      have m1 := MxM.out k hk
      have m2 := TlM.out k hlt
      clear hc hvk hk3
      generalize maxF tl k = mx at *
      have i1 : (k : Int) < (n : Int) := by omega
      go_wp2_with fail
      refine (trim_any _ _ _ _ _ Sk.out).mono ?_
      rintro e w' ⟨rfl, rfl⟩
      rw [HTk.out]
      go_wp2_with fail
      go_roundw
      case rel =>
        refine ⟨k + 1, by omega, by go_num, int_eq ?_, trivial⟩
        rw [HX.out]
        split <;> omega
      case measure => simp [intOf]; omega
    · obtain rfl : k = n := by omega
      have m1 := MxM.out k hk
      have Tot := Lib.hid (show maxF tl k ≠ 0 → 4294967296 ^ (maxF tl k - 1) ≤ sumF vl k by
        intro h0
        obtain ⟨j, hj, e⟩ := maxF_at tl k h0
        have h1 := sumF_ge vl hj
        have h2 : tl j = (dig 4294967296 (vl j)).length := by
          rw [Htl.out, Hvl.out]
          show (trim (ls j)).length = _
          rw [trim_eq (by omega) (Ha.out j hj)]
        rw [e, h2]
        refine Nat.le_trans (pow_le_dig (by omega) ?_) h1
        rw [← h2, ← e]
        exact h0)
      have TL := Lib.hid (show ∀ j, j < k → tl j ≤ maxF tl k from fun j hj => maxF_ge tl hj)
      generalize maxF tl k = mx at *
      go_wp2_with (at_make; refine wp_make rfl _ _ 34 rfl 73 i0 (.int .u32 0) Try.underlying34 hi hz0 hz1 (by omega) rfl _ _ _ _ mx (mx + 1) rfl rfl rfl (by omega) (by omega) (by omega) ?_; intro w1 r1 g1 s1; have Si := Lib.hid (SumInv.start (by omega) r1 g1); clear r1 g1 s1)
      go_loopw [6, 27] (fun ov i wr2 => ∃ (q g2 cap2 : Nat) (zs : List Nat), q ≤ k ∧ i = .int .i64 q ∧ ov = .slice (some ⟨g2, 0, none⟩) zs.length cap2 ∧ SumInv w wr2 mx q g2 cap2 (sumF vl q) zs) (fun _ i _ => (k - (intOf i).toNat))
      case atStart =>
        refine ⟨0, _, _, _, by omega, rfl, ?_, Si.out⟩
        simp
      case round =>
        obtain ⟨q, g2, cap2, zs, hq, rfl, rfl, inv⟩ := hrel
        by_cases hlt2 : q < k
        · rcases H3.out with h3 | ⟨b, off, rfl, hbl, hc⟩
          · omega
          obtain ⟨pk, capk, hvk, hk1, hk2, hk3⟩ := Hs.out q hlt2
          have ck := hc q hlt2
          rw [hvk] at ck
          have ck2 : wr.cell? ⟨b, off + q, none⟩ = some (.slice pk (ls q).length capk) := by
            rw [World.cell?_of_block (w := w) (inv.grown.block b hbl (by simp)), ck]
          have Sk0 := hvk ▸ Hs.out q hlt2
          have Sk := Lib.hid (Sk0.grown inv.grown (.inl rfl))
          have Tt : trim (ls q) = (ls q).take (trim (ls q)).length := by rw [trim_len]; rfl
          have Tl : (trim (ls q)).length ≤ (ls q).length := by rw [trim_len]; exact trimTo_le _ _
          have St : Sl wr .u32 (.slice pk (trim (ls q)).length capk) (trim (ls q)) := by
            have := (Sk0.grown inv.grown (.inl rfl)).take _ Tl
            rwa [← Tt] at this
          have StH := Lib.hid St
          have Hb := Lib.hid (show (trim (ls q)).length ≤ zs.length from by
            have h1 := TL.out q hlt2
            have h2 := inv.lo
            rw [Htl.out] at h1
            exact Nat.le_trans h1 h2)
          have Hne := Lib.hid (show trim (ls q) ≠ [] → (Value.slice pk (trim (ls q)).length capk).ownBlock ≠ some g2 by
            intro h0 e
            have l1 := (Sk0.take _ Tl).block_lt (by rw [← Tt]; exact h0) g2 e
            have l2 := (inv.own.lt g2 rfl).1
            omega)
          have i1 : (q : Int) < (k : Int) := by omega
          have hsz := inv.grown.size
          have Inv := Lib.hid inv
          have L2 := Lib.hid (show zs.length < 17592186044416 by have := inv.hi; omega)
          have HV := Lib.hid (show vl q = val 4294967296 (trim (ls q)) by rw [trim_val, Hvl.out])
          have HS := Lib.hid (show sumF vl (q + 1) = sumF vl q + vl q from rfl)
          have A1 := Lib.hid (show All 4294967296 (trim (ls q)) by rw [Tt]; exact (Ha.out q hlt2).take _)
          clear hc hvk hk3 inv ck Tt Tl St Sk0
          go_wp2_with fail
          refine (trim_any _ _ _ _ _ Sk.out).mono ?_
          rintro e w' ⟨rfl, rfl⟩
          go_wp2_with fail
          refine (addTo_any g2 cap2 w.heap.size _ zs (trim (ls q)) wr Inv.out.own StH.out Hne.out Hb.out Inv.out.all A1.out L2.out hsz).mono ?_
          intro e w' had
          obtain ⟨g3, cap3, zs3, rfl, inv3⟩ := Inv.out.next had
          go_wp2_with fail
          go_roundw
          case rel =>
            refine ⟨q + 1, g3, cap3, zs3, by omega, by go_num, rfl, ?_⟩
            rw [HS.out, HV.out]
            exact inv3
          case measure => simp [intOf]; omega
        · obtain rfl : q = k := by omega
          have Inv := Lib.hid inv
          clear inv
          go_wp2
          go_ret
          have e := Inv.out.done Tot.out
          have ho := Inv.out.own
          rw [← e]
          exact ⟨_, rfl, ho, Inv.out.grown⟩

end Go.Proofs.Yteblgmjpociffaa

namespace Go.Proofs.Yteblgmjpociffaa
open Go.RowKit

def two (a b : Value) : Nat → Value := fun j => if j = 0 then a else b
def two' (a b : List Nat) : Nat → List Nat := fun j => if j = 0 then a else b
theorem slS_two (w : World) (a b : Value) (e : TypeId) : SlS (w.alloc (.cells #[a, b] e)) (.slice (some ⟨w.heap.size, 0, none⟩) 2 2) 2 (two a b) := by
  refine ⟨_, 2, rfl, Nat.le_refl _, by omega, .inr ⟨w.heap.size, 0, rfl, by simp, fun j hj => ?_⟩⟩
  rw [Nat.zero_add, World.cell?_alloc_at _ _ _ _ rfl]
  have : j = 0 ∨ j = 1 := by omega
  rcases this with rfl | rfl <;> rfl

theorem Made.later {e : TypeId} {k : IntKind} {w w1 : World} {xs : List Nat} {en : Ending} {w' : World} (h : Made e k w1 xs en w') (g : w.grownBy w1 none) : Made e k w xs en w' := by
  obtain ⟨v, h1, h2, h3⟩ := h
  exact ⟨v, h1, h2.mono g.size, grown_trans g h3⟩

set_option maxHeartbeats 400000 in
theorem Add_any {v u : Value} {xs ys : List Nat} {w : World} (hx : Sl w .u32 v xs) (hy : Sl w .u32 u ys) (ax : All 4294967296 xs) (ay : All 4294967296 ys) (lx : xs.length ≤ 8796093022208) (ly : ys.length ≤ 8796093022208) :
    Calls Try.prog 74 #[v, u] w (Made 73 .u32 w (dig 4294967296 (val 4294967296 xs + val 4294967296 ys))) := by
  obtain ⟨p, cap, rfl, -⟩ := id hx
  obtain ⟨q, cap', rfl, -⟩ := id hy
  have Hx := Lib.hid hx
  have Hy := Lib.hid hy
  have Ax := Lib.hid ax
  have Ay := Lib.hid ay
  clear hx hy ax ay
  go_enter Try.func74, Try.ntmps74
  go_wp2_with fail
  refine (Sum_any _ 2 (two (.slice p xs.length cap) (.slice q ys.length cap')) (two' xs ys) _ (slS_two w _ _ _) ?_ ?_ 8796093022208 ?_ (by omega)).mono ?_
  · intro j hj
    have : j = 0 ∨ j = 1 := by omega
    rcases this with rfl | rfl
    · exact Hx.out.grown (grown_alloc _ _ none) (.inl rfl)
    · exact Hy.out.grown (grown_alloc _ _ none) (.inl rfl)
  · intro j hj
    have : j = 0 ∨ j = 1 := by omega
    rcases this with rfl | rfl
    · exact Ax.out
    · exact Ay.out
  · intro j hj
    have : j = 0 ∨ j = 1 := by omega
    rcases this with rfl | rfl
    · exact lx
    · exact ly
  · intro e w' h
    obtain ⟨v', rfl, ho, hg⟩ := h.later (grown_alloc w _ none)
    go_wp2_with fail
    go_ret
    have e : sumF (fun j => val 4294967296 (two' xs ys j)) 2 = val 4294967296 xs + val 4294967296 ys := by simp [sumF, two']
    rw [e] at ho
    exact ⟨_, rfl, ho, hg⟩

end Go.Proofs.Yteblgmjpociffaa

namespace Go.Proofs.Yteblgmjpociffaa
open Go.RowKit

/-- What Sub hands back. -/
def Subbed (w : World) (m n : Nat) (en : Ending) (w' : World) : Prop :=
  (m < n ∧ en = .returned (.tuple #[.slice none 0 0, .bool false]) ∧ w.grownBy w' none) ∨
  (n ≤ m ∧ ∃ v, en = .returned (.tuple #[v, .bool true]) ∧ Own w' 73 .u32 w.heap.size v (dig 4294967296 (m - n)) ∧ w.grownBy w' none)

theorem subbed_end {B g cap k : Nat} {wr : World} {c : Nat → Value} {xs ys : List Nat} (hB : B ≤ g) (hle : xs.length ≤ cap) (hcap : cap ≤ 9223372036854775807)
    (hx : ∀ j, j < xs.length → c j = .int .u32 (nth xs j)) (hky : ys.length ≤ k)
    (h0 : subC (nth xs) (nth ys) k = 0)
    (hr : RowF wr 73 g cap (lay c 0 k .u32 (pre (subD 4294967296 (nth xs) (nth ys)) xs.length))) :
    Own wr 73 .u32 B (.slice (some ⟨g, 0, none⟩) xs.length cap) (pre (subD 4294967296 (nth xs) (nth ys)) xs.length) := by
  refine .inr ⟨g, cap, _, by rw [pre_len], hB, hr, by rw [pre_len]; exact hle, hcap, fun j hj => ?_⟩
  rw [pre_len] at hj
  rw [pre_nth _ hj]
  by_cases hjk : j < k
  · rw [lay_in0 _ _ _ hjk, pre_nth _ hj]
  · rw [lay_out _ _ _ (by omega), hx j hj, subD_rest h0 hky (by omega)]

theorem Own.trim {w : World} {e : TypeId} {k : IntKind} {B : Nat} {p : Option Addr} {m cap : Nat} {xs : List Nat} (h : Own w e k B (.slice p m cap) xs) : Own w e k B (.slice p (Go.Proofs.Yteblgmjpociffaa.trim xs).length cap) (Go.Proofs.Yteblgmjpociffaa.trim xs) := by
  have hl : (Go.Proofs.Yteblgmjpociffaa.trim xs).length ≤ xs.length := by rw [trim_len]; exact trimTo_le _ _
  have := h.take _ hl
  rwa [show xs.take (Go.Proofs.Yteblgmjpociffaa.trim xs).length = Go.Proofs.Yteblgmjpociffaa.trim xs by rw [trim_len]; rfl] at this
theorem Sl.trim {w : World} {k : IntKind} {p : Option Addr} {m cap : Nat} {xs : List Nat} (h : Sl w k (.slice p m cap) xs) : Sl w k (.slice p (Go.Proofs.Yteblgmjpociffaa.trim xs).length cap) (Go.Proofs.Yteblgmjpociffaa.trim xs) := by
  have hl : (Go.Proofs.Yteblgmjpociffaa.trim xs).length ≤ xs.length := by rw [trim_len]; exact trimTo_le _ _
  have := h.take _ hl
  rwa [show xs.take (Go.Proofs.Yteblgmjpociffaa.trim xs).length = Go.Proofs.Yteblgmjpociffaa.trim xs by rw [trim_len]; rfl] at this

set_option maxHeartbeats 400000 in
theorem Sub_less {v u : Value} {xs ys : List Nat} {w : World} (hx : Sl w .u32 v xs) (hy : Sl w .u32 u ys) (ax : All 4294967296 xs) (ay : All 4294967296 ys) (hlt : val 4294967296 xs < val 4294967296 ys) :
    Calls Try.prog 89 #[v, u] w (Subbed w (val 4294967296 xs) (val 4294967296 ys)) := by
  have Hx := Lib.hid hx
  have Hy := Lib.hid hy
  have Ax := Lib.hid ax
  have Ay := Lib.hid ay
  have Hlt := Lib.hid (cmpN_lt hlt)
  clear hx hy ax ay
  go_enter Try.func89, Try.ntmps89
  go_wp2_with fail
  refine (Cmp_any Hx.out Hy.out Ax.out Ay.out).mono ?_
  rintro e w' ⟨rfl, d, rfl⟩
  rw [Hlt.out]
  go_wp2_with fail
  go_ret2
  exact .inl ⟨hlt, rfl, ⟨rfl, rfl, rfl, Nat.le_refl _, fun _ _ _ => rfl⟩⟩

theorem grown_drewN (w : World) (n : Nat) (row : Option Nat) : w.grownBy (w.drewN n) row := ⟨rfl, rfl, rfl, Nat.le_refl _, fun _ _ _ => rfl⟩

set_option maxHeartbeats 1000000 in
theorem Sub_more {v u : Value} {xs ys : List Nat} {w : World} (hx : Sl w .u32 v xs) (hy : Sl w .u32 u ys) (ax : All 4294967296 xs) (ay : All 4294967296 ys) (hle : val 4294967296 ys ≤ val 4294967296 xs) (hlen : xs.length ≤ 17592186044416) :
    Calls Try.prog 89 #[v, u] w (Subbed w (val 4294967296 xs) (val 4294967296 ys)) := by
  obtain ⟨p, cap, rfl, -⟩ := id hx
  obtain ⟨q, capy, rfl, -⟩ := id hy
  have Hx := Lib.hid hx
  have Hy := Lib.hid hy
  have Ax := Lib.hid ax
  have Ay := Lib.hid ay
  have Hle := Lib.hid hle
  obtain ⟨cv, hcv⟩ : ∃ cv, cmpN (val 4294967296 xs) (val 4294967296 ys) = cv := ⟨_, rfl⟩
  have h0 : (0 : Int) ≤ cv := by rw [← hcv]; unfold cmpN; split; · omega
                                 · split <;> omega
  have Hcv := Lib.hid hcv
  clear hx hy ax ay hle hcv
  go_enter Try.func89, Try.ntmps89
  go_wp2_with fail
  refine (Cmp_any Hx.out Hy.out Ax.out Ay.out).mono ?_
  rintro e w' ⟨rfl, d, rfl⟩
  rw [Hcv.out]
  go_wp2_with fail
  refine (Norm_at (Hx.out.grown (grown_drewN w d none) (.inl rfl)) hlen).mono ?_
  rintro e w1 ⟨g, cp, rfl, ho0, hg0⟩
  have hg1 : w.grownBy w1 none := grown_trans (grown_drewN w d none) hg0
  have ho : Own w1 73 .u32 w.heap.size (.slice (some ⟨g, 0, none⟩) (trim xs).length cp) (trim xs) := ho0
  have Hy1 := Lib.hid (Hy.out.grown hg1 (.inl rfl))
  have Hyt := Lib.hid (Hy.out.trim)
  have tl : (trim ys).length ≤ (trim xs).length := by
    rw [trim_eq (by omega) Ax.out, trim_eq (by omega) Ay.out]
    rcases Nat.lt_or_ge (dig 4294967296 (val 4294967296 xs)).length (dig 4294967296 (val 4294967296 ys)).length with h | h
    · have := dig_len_lt (by omega) h; have := Hle.out; omega
    · exact h
  have At := Lib.hid (show All 4294967296 (trim xs) from Ax.out.take _)
  have Bt := Lib.hid (show All 4294967296 (trim ys) from Ay.out.take _)
  have Hle2 := Lib.hid (show val 4294967296 (trim ys) ≤ val 4294967296 (trim xs) by rw [trim_val, trim_val]; exact Hle.out)
  have Vx := Lib.hid (show val 4294967296 xs = val 4294967296 (trim xs) from (trim_val xs).symm)
  have Vy := Lib.hid (show val 4294967296 ys = val 4294967296 (trim ys) from (trim_val ys).symm)
  have Tlm : (trim xs).length ≤ 17592186044416 := by have := trimTo_le xs xs.length; rw [trim_len]; omega
  go_wp2_with fail
  refine (trim_any _ _ _ _ _ Hy1.out).mono ?_
  rintro e w' ⟨rfl, rfl⟩
  generalize trim xs = a at *
  generalize trim ys = b at *
  clear Hx Hy Hy1 Hcv Hle Ax Ay ho0 hg0
  rcases ho with ⟨h, _⟩ | ⟨g', cp', c, e, hBg, hr, hac, hcap, hx⟩
  · cases h
  simp only [Value.slice.injEq, Option.some.injEq, Addr.mk.injEq, and_true] at e
  obtain ⟨rfl, -, rfl⟩ := e
  obtain ⟨n, hn⟩ : ∃ n, a.length = n := ⟨_, rfl⟩
  obtain ⟨m, hm⟩ : ∃ m, b.length = m := ⟨_, rfl⟩
  obtain ⟨Z, hZ⟩ : ∃ Z, pre (subD 4294967296 (nth a) (nth b)) a.length = Z := ⟨_, rfl⟩
  have hZn : ∀ j, j < n → nth Z j = subD 4294967296 (nth a) (nth b) j := fun j hj => by rw [← hZ]; exact pre_nth _ (by omega)
  have Hend := Lib.hid (subC_end At.out Bt.out (by omega) tl Hle2.out)
  rw [hn] at tl Tlm hac hx ⊢
  rw [hm] at tl ⊢
  have Hn := Lib.hid hn
  have Hm := Lib.hid hm
  have HZ := Lib.hid hZ
  have HZn := Lib.hid hZn
  have Hxx := Lib.hid hx
  have Hg := Lib.hid hg1
  have hs1 := hg1.size
  clear hn hm hZ hZn hx hg1
  go_wp2_with fail
  go_loopw [7, 22] (fun cv i wr => ∃ k : Nat, k ≤ m ∧ i = .int .i64 k ∧ cv = .int .u64 (subC (nth a) (nth b) k) ∧ RowF wr 73 g cp (lay c 0 k .u32 Z) ∧ w1.grownBy wr (some g)) (fun _ i _ => (m - (intOf i).toNat))
  case atStart => exact ⟨0, by omega, rfl, rfl, by rw [lay_zero]; exact hr, grown_refl _ _⟩
  case round =>
    obtain ⟨k, hk, rfl, rfl, rr, gr⟩ := hrel
    have hcr := subC_le (nth a) (nth b) k
    by_cases hlt : k < m
    · have c1 : wr.cell? ⟨g, k, none⟩ = some (.int .u32 (nth a k)) := by
        rw [rr.cell (by omega), lay_out _ _ _ (by omega), Hxx.out k (by omega)]
      obtain ⟨p', cap', e', -, -, h3⟩ := Hyt.out
      have hqq : p' = q := by cases e'; rfl
      subst hqq
      rcases h3 with h3 | ⟨bb, off, rfl, hbl, hy⟩
      · have := Hm.out; rw [h3] at this; simp at this; omega
      have c2 : wr.cell? ⟨bb, off + k, none⟩ = some (.int .u32 (nth b k)) := by
        rw [World.cell?_of_block (w := w1) (gr.block bb (by omega) (by simp; omega)), World.cell?_of_block (w := w) (Hg.out.block bb hbl (by simp)), hy k (by rw [Hm.out]; omega)]
      clear hy e'
      have f1 : wr.frozen? ⟨g, k, none⟩ = false := rr.frozen k
      have b1 : nth a k < 4294967296 := nth_lt (by omega) At.out k
      have b2 : nth b k < 4294967296 := nth_lt (by omega) Bt.out k
      have i1 : (k : Int) < (n : Int) := by omega
      have HS := Lib.hid (show nth Z k + (nth b k + subC (nth a) (nth b) k) = nth a k + 4294967296 * subC (nth a) (nth b) (k + 1) by
        rw [HZn.out k (by omega)]; exact subD_spec (nth_lt (by omega) Bt.out) k)
      have HC := Lib.hid (show subC (nth a) (nth b) (k + 1) = if nth a k < nth b k + subC (nth a) (nth b) k then 1 else 0 from rfl)
      generalize subC (nth a) (nth b) k = cr at *
      by_cases hlt1 : nth a k < nth b k
      · have hC1 : subC (nth a) (nth b) (k + 1) = 1 := by rw [HC.out, if_pos (by omega)]
        have HC1 := Lib.hid hC1
        have e2 := HS.out
        rw [hC1] at e2
        have HE := Lib.hid e2
        clear hC1 e2
        go_wp2
        go_roundw
        case rel =>
          refine ⟨k + 1, by omega, by go_num, int_eq (by rw [HC1.out]; exact borrow_lt _ _ _ b2 hcr hlt1), ?_, grown_trans gr (grown_set _ _ _ _)⟩
          rw [← lay_step0 c k .u32 Z rfl]
          refine (rr.set k _).congr fun j _ => ?_
          congr 1
          refine int_eq ?_
          rw [borrow_lt_d _ _ _ b2 hcr hlt1]
          have := HE.out
          omega
        case measure => simp [intOf]; omega
      · by_cases hlt2 : nth a k < nth b k + cr
        · have hC1 : subC (nth a) (nth b) (k + 1) = 1 := by rw [HC.out, if_pos hlt2]
          have HC1 := Lib.hid hC1
          have e2 := HS.out
          rw [hC1] at e2
          have HE := Lib.hid e2
          clear hC1 e2
          go_wp2
          go_roundw
          case rel =>
            refine ⟨k + 1, by omega, by go_num, int_eq (by rw [HC1.out]; exact borrow_eq _ _ _ (by omega) hcr hlt2), ?_, grown_trans gr (grown_set _ _ _ _)⟩
            rw [← lay_step0 c k .u32 Z rfl]
            refine (rr.set k _).congr fun j _ => ?_
            congr 1
            refine int_eq ?_
            rw [borrow_eq_d _ _ _ (by omega) hcr hlt2]
            have := HE.out
            omega
          case measure => simp [intOf]; omega
        · have hC1 : subC (nth a) (nth b) (k + 1) = 0 := by rw [HC.out, if_neg hlt2]
          have HC1 := Lib.hid hC1
          have e2 := HS.out
          rw [hC1] at e2
          have HE := Lib.hid e2
          clear hC1 e2
          go_wp2
          go_roundw
          case rel =>
            refine ⟨k + 1, by omega, by go_num, int_eq (by rw [HC1.out]; exact borrow_no _ _ _ b1 (by omega)), ?_, grown_trans gr (grown_set _ _ _ _)⟩
            rw [← lay_step0 c k .u32 Z rfl]
            refine (rr.set k _).congr fun j _ => ?_
            congr 1
            refine int_eq ?_
            have := HE.out
            omega
          case measure => simp [intOf]; omega
    · obtain rfl : k = m := by omega
      generalize hcr0 : subC (nth a) (nth b) k = cr at *
      have HC0 := Lib.hid hcr0
      clear hcr0
      go_wp2
      go_loopw [11, 7] (fun i cv wr2 => ∃ q : Nat, k ≤ q ∧ q ≤ n ∧ i = .int .i64 q ∧ cv = .int .u64 (subC (nth a) (nth b) q) ∧ RowF wr2 73 g cp (lay c 0 q .u32 Z) ∧ w1.grownBy wr2 (some g)) (fun i _ _ => (n - (intOf i).toNat))
      case atStart => exact ⟨k, Nat.le_refl _, by omega, rfl, by rw [HC0.out], rr, gr⟩
      case round =>
        obtain ⟨q, hq, hqn, rfl, rfl, rr2, gr2⟩ := hrel
        have hcq := subC_le (nth a) (nth b) q
        have HC := Lib.hid (show subC (nth a) (nth b) (q + 1) = if nth a q < nth b q + subC (nth a) (nth b) q then 1 else 0 from rfl)
        generalize hcr1 : subC (nth a) (nth b) q = cq at *
        have HC1 := Lib.hid hcr1
        clear hcr1
        by_cases h0 : cq = 0
        · obtain rfl := h0
          have ho2 : Own wr 73 .u32 w.heap.size (.slice (some ⟨g, 0, none⟩) n cp) Z := by
            have e := HZ.out
            have hn := Hn.out
            have hm := Hm.out
            subst hn
            subst e
            exact subbed_end hBg hac hcap Hxx.out (by omega) HC1.out rr2
          have Ho2 := Lib.hid ho2
          have Hgf := Lib.hid (grown_new Hg.out gr2 hBg)
          clear ho2
          go_wp2_with fail
          refine (trim_any _ _ _ Z _ Ho2.out.sl).mono ?_
          rintro e w' ⟨rfl, rfl⟩
          go_wp2_with fail
          go_ret2
          have hv : val 4294967296 Z = val 4294967296 a - val 4294967296 b := by
            rw [← HZ.out]
            exact sub_all At.out Bt.out (by omega) (by rw [Hn.out, Hm.out]; omega) Hle2.out
          refine .inr ⟨by rw [Vx.out, Vy.out]; exact Hle2.out, _, rfl, ?_, Hgf.out⟩
          have az : All 4294967296 Z := by rw [← HZ.out]; exact pre_all (fun j _ => subD_lt (nth_lt (by omega) At.out) j)
          rw [Vx.out, Vy.out, ← hv, ← trim_eq (by omega) az]
          exact Ho2.out.trim
        · obtain rfl : cq = 1 := by omega
          clear h0
          by_cases hlt2 : q < n
          · have c1 : wr.cell? ⟨g, q, none⟩ = some (.int .u32 (nth a q)) := by
              rw [rr2.cell (by omega), lay_out _ _ _ (by omega), Hxx.out q (by omega)]
            have f1 : wr.frozen? ⟨g, q, none⟩ = false := rr2.frozen q
            have b1 : nth a q < 4294967296 := nth_lt (by omega) At.out q
            have i1 : (q : Int) < (n : Int) := by omega
            have y0 : nth b q = 0 := nth_out b (by rw [Hm.out]; omega)
            have HS := Lib.hid (show nth Z q + (nth b q + subC (nth a) (nth b) q) = nth a q + 4294967296 * subC (nth a) (nth b) (q + 1) by
              rw [HZn.out q (by omega)]; exact subD_spec (nth_lt (by omega) Bt.out) q)
            have HY := Lib.hid y0
            clear y0
            have rr3 : RowF (wr.setCell ⟨g, q, none⟩ (.int .u32 (nth Z q))) 73 g cp (lay c 0 (q + 1) .u32 Z) := by
              rw [← lay_step0 c q .u32 Z rfl]
              exact rr2.set q _
            have RR3 := Lib.hid rr3
            clear rr3
            by_cases hz : nth a q = 0
            · have HE1 : Hid (subC (nth a) (nth b) (q + 1) = 1) := by show subC _ _ _ = 1; rw [HC.out, HY.out, if_pos (by omega)]
              have HE2 : Hid (nth Z q = 4294967295) := by have e := HS.out; rw [HE1.out, HY.out, HC1.out] at e; show nth Z q = _; omega
              rw [hz] at c1
              go_wp2
              go_roundw
              case rel =>
                refine ⟨q + 1, by omega, by omega, by go_num, by rw [HE1.out]; try rfl, ?_, grown_trans gr2 (grown_set _ _ _ _)⟩
                have e := RR3.out
                rw [HE2.out] at e
                exact e
              case measure => simp [intOf]; omega
            · have HE1 : Hid (subC (nth a) (nth b) (q + 1) = 0) := by show subC _ _ _ = 0; rw [HC.out, HY.out, if_neg (by omega)]
              have HE2 : Hid (nth Z q = nth a q - 1) := by have e := HS.out; rw [HE1.out, HY.out, HC1.out] at e; show nth Z q = _; omega
              have hz' : 1 ≤ nth a q := by omega
              have t2 : (((nth a q : Nat) : Int) != 0) = true := by rw [bne_iff_ne]; omega
              go_wp2
              go_roundw
              case rel =>
                refine ⟨q + 1, by omega, by omega, by go_num, by rw [HE1.out]; try rfl, ?_, grown_trans gr2 (grown_set _ _ _ _)⟩
                have e := RR3.out
                have hv : Value.int .u32 (((nth a q : Nat) : Int) - 1) = .int .u32 (nth Z q) := int_eq (by rw [HE2.out]; omega)
                rw [hv]
                exact e
              case measure => simp [intOf]; omega
          · obtain rfl : q = n := by omega
            have e := Hend.out
            rw [Hn.out, HC1.out] at e
            omega

theorem Sub_any {v u : Value} {xs ys : List Nat} {w : World} (hx : Sl w .u32 v xs) (hy : Sl w .u32 u ys) (ax : All 4294967296 xs) (ay : All 4294967296 ys) (hlen : xs.length ≤ 17592186044416) :
    Calls Try.prog 89 #[v, u] w (Subbed w (val 4294967296 xs) (val 4294967296 ys)) := by
  rcases Nat.lt_or_ge (val 4294967296 xs) (val 4294967296 ys) with h | h
  · exact Sub_less hx hy ax ay h
  · exact Sub_more hx hy ax ay h hlen

end Go.Proofs.Yteblgmjpociffaa

namespace Go.Proofs.Yteblgmjpociffaa
open Go.RowKit

/-- What a function that writes a piece of a row leaves: nothing is handed back; n limbs from off on are Z. -/
def Wrote (w : World) (g N off n : Nat) (c : Nat → Value) (P : List Nat → Prop) (en : Ending) (w' : World) : Prop :=
  ∃ Z, Z.length = n ∧ All 4294967296 Z ∧ P Z ∧ en = .returned (.tuple #[]) ∧ RowF w' 73 g N (lay c off n .u32 Z) ∧ w.grownBy w' (some g) ∧ w'.heap.size = w.heap.size

theorem lay_full {w : World} {e : TypeId} {g N off n : Nat} {c : Nat → Value} {Z : List Nat} {v : Value} (h : RowF w e g N (lay c off n .u32 Z)) (hv : v = .int .u32 (nth Z n)) :
    RowF (w.setCell ⟨g, off + n, none⟩ v) e g N (lay c off (n + 1) .u32 Z) := by
  rw [← lay_step c off n .u32 Z hv]
  exact h.set _ _

end Go.Proofs.Yteblgmjpociffaa

namespace Go.Proofs.Yteblgmjpociffaa
open Go.RowKit

theorem lay_down {w : World} {e : TypeId} {g N off n k m : Nat} {c : Nat → Value} {Z : List Nat} {v : Value} (h : RowF w e g N (lay c (off + (k + 1)) n .u32 (Z.drop (k + 1)))) (hm : n + k + 1 = m) (hv : v = .int .u32 (nth Z k)) :
    RowF (w.setCell ⟨g, off + k, none⟩ v) e g N (lay c (off + k) (m - k) .u32 (Z.drop k)) := by
  refine (h.set (off + k) v).congr fun j _ => ?_
  subst hv
  by_cases h1 : j = off + k
  · subst h1
    rw [upd_at]
    have := lay_in c (off := off + k) (n := m - k) (j := 0) .u32 (Z.drop k) (by omega)
    rw [Nat.add_zero, nth_drop, Nat.add_zero] at this
    exact this.symm
  · rw [upd_ne _ _ h1]
    by_cases h2 : off + (k + 1) ≤ j ∧ j < off + (k + 1) + n
    · obtain ⟨i, rfl⟩ : ∃ i, j = off + (k + 1) + i := ⟨j - (off + (k + 1)), by omega⟩
      rw [lay_in _ _ _ (by omega), nth_drop]
      have := lay_in c (off := off + k) (n := m - k) (j := 1 + i) .u32 (Z.drop k) (by omega)
      rw [nth_drop] at this
      rw [show off + (k + 1) + i = off + k + (1 + i) by omega, this]
      congr 3
      omega
    · rw [lay_out _ _ _ (by omega), lay_out _ _ _ (by omega)]

theorem Sl.drop {w : World} {k : IntKind} {b off m cap : Nat} {xs : List Nat} (h : Sl w k (.slice (some ⟨b, off, none⟩) m cap) xs) (n : Nat) (hn : n < xs.length) : Sl w k (.slice (some ⟨b, off + n, none⟩) (m - n) (cap - n)) (xs.drop n) := by
  obtain ⟨p', cap', e, h1, h2, h3⟩ := h
  simp only [Value.slice.injEq] at e
  obtain ⟨rfl, rfl, rfl⟩ := e
  have hl : (xs.drop n).length = xs.length - n := List.length_drop ..
  refine ⟨_, cap - n, by rw [hl], by omega, by omega, ?_⟩
  rcases h3 with rfl | ⟨b', off', e, h4, h5⟩
  · simp at hn
  · simp only [Option.some.injEq, Addr.mk.injEq, and_true] at e
    obtain ⟨rfl, rfl⟩ := e
    refine .inr ⟨b, off + n, rfl, h4, fun j hj => ?_⟩
    rw [hl] at hj
    rw [nth_drop, Nat.add_assoc]
    exact h5 (n + j) (by omega)

theorem Bits_any {v : Value} {xs : List Nat} {w : World} (hx : Sl w .u32 v xs) (ax : All 4294967296 xs) (hlen : xs.length ≤ 8796093022208) :
    Calls Try.prog 99 #[v] w fun e w' => e = .returned (.int .i64 ((dig 2 (val 4294967296 xs)).length : Nat)) ∧ w = w' := by
  obtain ⟨p, cap, rfl, h1, h2, hp⟩ := id hx
  have Hx := Lib.hid hx
  have Ht := Lib.hid hx.trim
  have At := Lib.hid (show All 4294967296 (trim xs) from ax.take _)
  have Vx := Lib.hid (show val 4294967296 xs = val 4294967296 (trim xs) from (trim_val xs).symm)
  have Td := Lib.hid (trim_eq (by omega) ax)
  have tl : (trim xs).length ≤ 8796093022208 := by have := trimTo_le xs xs.length; rw [trim_len]; omega
  clear hx ax
  generalize hq : trim xs = a at Ht At Vx tl Td
  have Hq := Lib.hid hq
  clear hq
  by_cases h0 : a = []
  · subst h0
    go_enter Try.func99, Try.ntmps99
    go_wp2_with fail
    refine (trim_to Hx.out Hq.out).mono ?_
    rintro e w' ⟨rfl, rfl⟩
    go_wp2_with fail
    go_ret
    exact ⟨by rw [Vx.out, val, dig_zero]; rfl, rfl⟩
  · obtain ⟨k, hk⟩ : ∃ k, a.length = k + 1 := ⟨a.length - 1, by have := List.length_pos_iff.2 h0; omega⟩
    obtain ⟨p', cap', e', g1, g2, g3⟩ := id Ht.out
    simp only [Value.slice.injEq, true_and] at e'
    obtain ⟨rfl, rfl⟩ := e'
    rcases g3 with g3 | ⟨b, off, rfl, hbl, hy⟩
    · exact absurd g3 h0
    have c1 : w.cell? ⟨b, off + k, none⟩ = some (.int .u32 (nth a k)) := hy k (by omega)
    have b1 := At.out.nth (j := k) (by omega)
    have Hn0 := Lib.hid (show nth a k ≠ 0 by
      have t := dig_top (b := 4294967296) (by omega) (val 4294967296 xs)
      rw [← Td.out] at t
      rcases t with t | t
      · exact absurd t h0
      · rw [hk] at t; exact t)
    have Hk := Lib.hid hk
    rw [hk] at tl
    have He := Lib.hid h0
    clear hy h0 hk g1
    go_enter Try.func99, Try.ntmps99
    go_wp2_with fail
    refine (trim_to Hx.out Hq.out).mono ?_
    rintro e w' ⟨rfl, rfl⟩
    rw [Hk.out]
    go_wp2_with fail
    refine (Len32_any _ _ (by omega) (by omega)).mono ?_
    rintro e w' ⟨rfl, rfl⟩
    have hbl := Lib.bitLen_le (nth a k) 32 (by omega) (by omega)
    have hb0 := bitLen_ge (nth a k) (by omega) (by have := Hn0.out; omega)
    have hb1 := bitLen_lt (nth a k) (by omega)
    rw [Int.toNat_natCast]
    generalize Lib.bitLen (nth a k) = l at *
    go_wp2_with fail
    go_ret
    refine ⟨ret_int ?_, rfl⟩
    have hv : val 4294967296 a = val 4294967296 (a.take k) + 4294967296 ^ k * nth a k := by
      have e1 := val_take_step 4294967296 a (k := k) (by rw [Hk.out]; omega)
      rwa [← Hk.out, List.take_length] at e1
    have hlt := val_lt (At.out.take k)
    rw [List.length_take, Nat.min_eq_left (by rw [Hk.out]; omega)] at hlt
    have hp : (4294967296 : Nat) ^ k = 2 ^ (32 * k) := by rw [Nat.pow_mul]
    obtain ⟨m, rfl⟩ : ∃ m, l = m + 1 := ⟨l - 1, by omega⟩
    have hd := dig_len_of (b := 2) (n := val 4294967296 a) (k := 32 * k + m) (by omega) (by
      rw [Nat.pow_add, ← hp, hv]
      have := Nat.mul_le_mul_left (4294967296 ^ k) hb0.1
      rw [Nat.add_sub_cancel] at this
      omega) (by
      rw [Nat.add_assoc, Nat.pow_add, ← hp, hv]
      have := Nat.mul_le_mul_left (4294967296 ^ k) (show nth a k + 1 ≤ 2 ^ (m + 1) from hb1)
      rw [Nat.mul_add] at this
      omega)
    rw [Vx.out, hd]
    omega

end Go.Proofs.Yteblgmjpociffaa

namespace Go.Proofs.Yteblgmjpociffaa
open Go.RowKit

/-- What mulAdd hands back: the carry; n limbs from off on are Z. -/
def WroteC (w : World) (g N off n : Nat) (c : Nat → Value) (P : List Nat → Nat → Prop) (en : Ending) (w' : World) : Prop :=
  ∃ (Z : List Nat) (cy : Nat), Z.length = n ∧ All 4294967296 Z ∧ cy < 4294967296 ∧ P Z cy ∧ en = .returned (.int .u32 cy) ∧ RowF w' 73 g N (lay c off n .u32 Z) ∧ w.grownBy w' (some g) ∧ w'.heap.size = w.heap.size

set_option maxHeartbeats 1000000 in
theorem mulAdd_any (g off N cap n x : Nat) (vy : Value) (c : Nat → Value) (os ys : List Nat) (w : World) (hr : RowF w 73 g N c) (hN : off + n ≤ N) (hx : x < 4294967296)
    (hc : ∀ j, j < n → c (off + j) = .int .u32 (nth os j)) (ho : os.length = n) (ao : All 4294967296 os)
    (hy : Sl w .u32 vy ys) (hne : ys ≠ [] → vy.ownBlock ≠ some g) (hm : ys.length = n) (ay : All 4294967296 ys) :
    Calls Try.prog 98 #[.slice (some ⟨g, off, none⟩) n cap, vy, .int .u32 x] w
      (WroteC w g N off n c (fun Z cy => val 4294967296 Z + 4294967296 ^ n * cy = x * val 4294967296 ys + val 4294967296 os)) := by
  obtain ⟨p, capy, rfl, h1, h2, h3⟩ := hy
  have ynth := nth_lt (by omega) ay
  have onth := nth_lt (by omega) ao
  obtain ⟨s, hs⟩ : ∃ s : Nat → Nat, s = fun j => nth ys j * x + nth os j := ⟨_, rfl⟩
  have clt : ∀ k, chC 4294967296 s 0 k < 4294967296 := fun k => by
    refine chC_lt (fun j => ?_) (by omega) k
    rw [hs]
    show nth ys j * x + nth os j + 4294967296 ≤ _
    have a := ynth j
    have b := onth j
    have := mul_le32 a hx
    omega
  obtain ⟨Z, hZ⟩ : ∃ Z, pre (chD 4294967296 s 0) n = Z := ⟨_, rfl⟩
  have hZn : ∀ j, j < n → nth Z j = chD 4294967296 s 0 j := fun j hj => by rw [← hZ]; exact pre_nth _ (by omega)
  have fin : Z.length = n ∧ All 4294967296 Z ∧ val 4294967296 Z + 4294967296 ^ n * chC 4294967296 s 0 n = x * val 4294967296 ys + val 4294967296 os := by
    refine ⟨by rw [← hZ, pre_len], by rw [← hZ]; exact pre_all fun j _ => chD_lt (by omega) _ _ _, ?_⟩
    have e := ch_val 4294967296 s 0 n
    rw [hZ, hs, val_add 4294967296 (fun j => nth ys j * x) (nth os), val_mul, val_pre_more _ ys (by omega), val_pre_more _ os (by omega), Nat.mul_comm _ x] at e
    rw [hs]
    omega
  rw [hm] at h1 ⊢
  have Hm := Lib.hid hm
  have HZn := Lib.hid hZn
  have Fin := Lib.hid fin
  have H3 := Lib.hid h3
  have Clt := Lib.hid clt
  have Hs := Lib.hid hs
  have Hne := Lib.hid hne
  have Hc := Lib.hid hc
  have Ynth := Lib.hid ynth
  have Onth := Lib.hid onth
  clear hm hZ hZn fin h3 clt hs hne hc ynth ay ao onth ho
  go_enter Try.func98, Try.ntmps98
  go_wp2_with fail
  go_loopw [7, 12] (fun cv i wr => ∃ k : Nat, k ≤ n ∧ i = .int .i64 k ∧ cv = .int .u64 (chC 4294967296 s 0 k) ∧ RowF wr 73 g N (lay c off k .u32 Z) ∧ w.grownBy wr (some g) ∧ wr.heap.size = w.heap.size) (fun _ i _ => (n - (intOf i).toNat))
  case atStart => exact ⟨0, by omega, rfl, rfl, by rw [lay_zero]; exact hr, grown_refl _ _, rfl⟩
  case round =>
    obtain ⟨k, hk, rfl, rfl, rr, gr, sr⟩ := hrel
    have Sr := Lib.hid sr
    clear sr
    have hcl := Clt.out k
    by_cases hlt : k < n
    · have f1 : wr.frozen? ⟨g, off + k, none⟩ = false := rr.frozen _
      have c1 : wr.cell? ⟨g, off + k, none⟩ = some (.int .u32 (nth os k)) := by
        rw [rr.cell (by omega), lay_out _ _ _ (by omega), Hc.out k hlt]
      have HC := Lib.hid (show chC 4294967296 s 0 (k + 1) = (chC 4294967296 s 0 k + s k) / 4294967296 from rfl)
      have HD := Lib.hid (show nth Z k = (chC 4294967296 s 0 k + s k) % 4294967296 from HZn.out k (by omega))
      rcases H3.out with h3 | ⟨b, boff, rfl, hbl, hy⟩
      · have := Hm.out; rw [h3] at this; simp at this; omega
      have c2 : wr.cell? ⟨b, boff + k, none⟩ = some (.int .u32 (nth ys k)) := by
        rw [World.cell?_of_block (w := w) (gr.block b hbl (by simpa [Value.ownBlock] using Hne.out (fun h => by have := Hm.out; rw [h] at this; simp at this; omega))), hy k (by rw [Hm.out]; omega)]
      clear hy
      have b2 : nth ys k < 4294967296 := Ynth.out k
      have b3 : nth os k < 4294967296 := Onth.out k
      have i1 : (k : Int) < (n : Int) := by omega
      have m1 := mul_le32i hx b2
      have m2 := mul_ge32i x (nth ys k)
      have HSk := Lib.hid (show (s k : Int) = (x : Int) * (nth ys k : Int) + (nth os k : Int) by rw [Hs.out]; show ((nth ys k * x + nth os k : Nat) : Int) = _; push_cast; rw [Int.mul_comm])
      generalize chC 4294967296 s 0 k = cr at *
      go_wp2
      go_roundw
      case rel =>
        refine ⟨k + 1, by omega, by go_num, int_eq ?_, ?_, grown_trans gr (grown_set _ _ _ _), by simpa using Sr.out⟩
        · have := HSk.out; rw [HC.out]; omega
        · refine lay_full rr (int_eq ?_)
          have := HSk.out; rw [HD.out]; omega
      case measure => simp [intOf]; omega
    · obtain rfl : k = n := by omega
      have Fe := Fin.out
      generalize chC 4294967296 s 0 k = cr at *
      have FE := Lib.hid Fe
      clear Fe
      go_wp2
      go_ret
      exact ⟨Z, cr, FE.out.1, FE.out.2.1, hcl, FE.out.2.2, ret_int (by omega), rr, gr, Sr.out⟩

theorem grow_pt {w w' : World} {e : TypeId} {g N k n : Nat} {Y Z : List Nat} {cy : Nat} {wv : Value} (hY : Y.length = N) (hk : k + n < N) (hZ : Z.length = n)
    (h : RowF w e g N (lay (fun j => .int .u32 (nth Y j)) k n .u32 Z)) (hw : w' = w.setCell ⟨g, k + n, none⟩ wv) (hv : wv = .int .u32 cy) :
    RowF w' e g N (fun j => .int .u32 (nth (patch Y Z k n cy) j)) := by
  subst hw
  subst hv
  refine (h.set (k + n) _).congr fun j hj => ?_
  by_cases h1 : j = k + n
  · subst h1
    rw [upd_at, patch_at (by omega) hZ]
  · rw [upd_ne _ _ h1]
    by_cases h2 : j < k
    · rw [lay_out _ _ _ (by omega), patch_lo (by omega) h2]
    · by_cases h3 : j < k + n
      · obtain ⟨i, rfl⟩ : ∃ i, j = k + i := ⟨j - k, by omega⟩
        rw [lay_in _ _ _ (by omega), patch_mid (by omega) hZ (by omega)]
      · rw [lay_out _ _ _ (by omega), patch_hi (by omega) hZ (by omega)]

set_option maxHeartbeats 1000000 in
theorem Mul_some {p q : Option Addr} {capx capy : Nat} {xs ys a b : List Nat} {w : World} (hx : Sl w .u32 (.slice p xs.length capx) xs) (hy : Sl w .u32 (.slice q ys.length capy) ys)
    (ha : trim xs = a) (hb : trim ys = b) (ha0 : a ≠ []) (hb0 : b ≠ []) (ax : All 4294967296 xs) (ay : All 4294967296 ys) (hm : a.length + b.length ≤ 8796093022208) :
    Calls Try.prog 81 #[.slice p xs.length capx, .slice q ys.length capy] w (Made 73 .u32 w (dig 4294967296 (val 4294967296 a * val 4294967296 b))) := by
  obtain ⟨i0, hi, hz0, hz1, hz2⟩ := info_parts Try.infoU
  have Hta := Lib.hid (show Sl w .u32 (.slice p a.length capx) a from ha ▸ hx.trim)
  have Htb := Lib.hid (show Sl w .u32 (.slice q b.length capy) b from hb ▸ hy.trim)
  have Aa := Lib.hid (show All 4294967296 a from ha ▸ ax.take _)
  have Ab := Lib.hid (show All 4294967296 b from hb ▸ ay.take _)
  have la : a.length ≠ 0 := fun h => ha0 (List.eq_nil_of_length_eq_zero h)
  have lb : b.length ≠ 0 := fun h => hb0 (List.eq_nil_of_length_eq_zero h)
  have tb : (((a.length : Nat) : Int) == 0) = false := by rw [beq_eq_false_iff_ne]; omega
  have tb' : (((b.length : Nat) : Int) == 0) = false := by rw [beq_eq_false_iff_ne]; omega
  have Hx := Lib.hid hx
  have Hy := Lib.hid hy
  have Ha := Lib.hid ha
  have Hb := Lib.hid hb
  have Ha0 := Lib.hid ha0
  have Hb0 := Lib.hid hb0
  clear hx hy ha hb ha0 hb0 ax ay
  go_enter Try.func81, Try.ntmps81
  go_wp2_with fail
  refine (trim_to Hx.out Ha.out).mono ?_
  rintro e w' ⟨rfl, rfl⟩
  go_wp2_with fail
  refine (trim_to Hy.out Hb.out).mono ?_
  rintro e w' ⟨rfl, rfl⟩
  go_wp2_with (at_make; refine wp_make rfl _ _ 34 rfl 73 i0 (.int .u32 0) Try.underlying34 hi hz0 hz1 (by omega) rfl _ _ _ _ (a.length + b.length) (a.length + b.length) rfl rfl (by omega) (by omega) (Nat.le_refl _) (by omega) ?_; intro w1 r1 g1 s1; have R1 := Lib.hid r1; have G1 := Lib.hid g1; clear r1 g1)
  go_loopw [28] (fun i wr => ∃ (k : Nat) (Y : List Nat), k ≤ a.length ∧ i = .int .i64 k ∧ w.grownBy wr none ∧ w.heap.size < wr.heap.size ∧ Y.length = a.length + b.length ∧ All 4294967296 Y ∧ val 4294967296 Y = val 4294967296 (a.take k) * val 4294967296 b ∧
      val 4294967296 (Y.drop (k + b.length)) = 0 ∧ RowF wr 73 w.heap.size (a.length + b.length) (fun j => .int .u32 (nth Y j))) (fun i _ => (a.length - (intOf i).toNat))
  case atStart =>
    refine ⟨0, List.replicate (a.length + b.length) 0, by omega, rfl, G1.out, by omega, by simp, All.rep (by omega) _, by rw [val_rep0]; simp [val], ?_, R1.out.congr fun j hj => ?_⟩
    · rw [List.drop_replicate, val_rep0]
    · simp [nth, hj]
  case round =>
    obtain ⟨k, Y, hk, rfl, gr, sr, yl, ya, yv, yz, rr⟩ := hrel
    have Yl := Lib.hid yl
    have Ya := Lib.hid ya
    have Yv := Lib.hid yv
    have Yz := Lib.hid yz
    have Gr := Lib.hid gr
    by_cases hlt : k < a.length
    · obtain ⟨p', cap', e', h1, h2, h3⟩ := id Hta.out
      have hpp : p' = p := by cases e'; rfl
      subst hpp
      rcases h3 with h3 | ⟨bb, off, rfl, hbl, hyy⟩
      · exact absurd h3 Ha0.out
      have c1 : wr.cell? ⟨bb, off + k, none⟩ = some (.int .u32 (nth a k)) := by
        rw [World.cell?_of_block (w := w) (gr.block bb hbl (by simp)), hyy k hlt]
      have b1 : nth a k < 4294967296 := Aa.out.nth hlt
      have i1 : (k : Int) < (a.length : Int) := by omega
      have i2 : (k : Int) ≤ (k : Int) + (b.length : Int) := by omega
      have i3 : k ≤ k + b.length := by omega
      have i4 : (k : Int) + (b.length : Int) ≤ (a.length : Int) + (b.length : Int) := by omega
      have i5 : k + b.length ≤ a.length + b.length := by omega
      have i6' : k + b.length < a.length + b.length := by omega
      have i6 : (k : Int) + (b.length : Int) < (a.length : Int) + (b.length : Int) := by omega
      have hk0 : ¬ a.length + b.length = k := by omega
      have Rr := Lib.hid rr
      clear hyy e' h1 yl ya yv yz gr rr
      go_wp2_with fail
      refine (mulAdd_any w.heap.size k (a.length + b.length) (a.length + b.length - k) b.length (nth a k) _ _ ((Y.drop k).take b.length) b wr Rr.out i5 b1 ?_ ?_ ((Ya.out.drop _).take _) (Htb.out.grown Gr.out (.inl rfl)) ?_ rfl Ab.out).mono ?_
      · intro j hj
        rw [nth_take _ hj, nth_drop]
      · rw [List.length_take, List.length_drop, Yl.out]; omega
      · intro h e
        have := Htb.out.block_lt h _ e
        omega
      · intro e w2 hwc
        obtain ⟨Z, cy, z1, z2, z3, z4, rfl, rr2, gr2, sr2⟩ := hwc
        have c2 : w2.cell? ⟨w.heap.size, k + b.length, none⟩ = some (.int .u32 (nth Y (k + b.length))) := by
          rw [rr2.cell (by omega), lay_out _ _ _ (by omega)]
        have f2 : w2.frozen? ⟨w.heap.size, k + b.length, none⟩ = false := rr2.frozen _
        have Z1 := Lib.hid z1
        have Z4 := Lib.hid z4
        have Pv := Lib.hid (patch_val (T := nth a k * val 4294967296 b) (by rw [Yl.out]; omega) (by omega) Yz.out z1 (by omega))
        have Gr2 := Lib.hid (grown_new Gr.out gr2 (Nat.le_refl _))
        have Rr2 := Lib.hid rr2
        have S2 := Lib.hid sr2
        clear z1 z4 gr2 rr2 sr2
        go_wp2_with fail
        go_roundw
        case rel =>
          refine ⟨k + 1, patch Y Z k b.length cy, by omega, by go_num, grown_new Gr2.out (grown_set _ _ _ _) (Nat.le_refl _), by simp; rw [S2.out]; exact sr, ?_, patch_all Ya.out z2 z3, ?_, Pv.out.2, grow_pt Yl.out i6' Z1.out Rr2.out rfl rfl⟩
          · rw [patch_len (by rw [Yl.out]; omega) Z1.out, Yl.out]
          · rw [Pv.out.1, Yv.out, val_take_step _ _ hlt, Nat.add_mul, Nat.mul_assoc]
        case measure => simp [intOf]; omega
    · obtain rfl : k = a.length := by omega
      have ho : Own wr 73 .u32 w.heap.size (.slice (some ⟨w.heap.size, 0, none⟩) (a.length + b.length) (a.length + b.length)) Y :=
        .inr ⟨w.heap.size, _, _, by rw [yl], Nat.le_refl _, rr, by omega, by omega, fun j _ => rfl⟩
      have Ho := Lib.hid ho
      clear ho yl ya yv yz gr rr
      go_wp2_with fail
      refine (trim_any _ _ _ Y _ Ho.out.sl).mono ?_
      rintro e w'' ⟨rfl, rfl⟩
      go_wp2_with fail
      go_ret
      refine ⟨_, rfl, ?_, Gr.out⟩
      have hv := Yv.out
      rw [List.take_length] at hv
      rw [← hv, ← trim_eq (by omega) Ya.out]
      exact Ho.out.trim

end Go.Proofs.Yteblgmjpociffaa

namespace Go.Proofs.Yteblgmjpociffaa
open Go.RowKit

theorem Mul_nilA {p q : Option Addr} {capx capy : Nat} {xs ys b : List Nat} {w : World} (hx : Sl w .u32 (.slice p xs.length capx) xs) (hy : Sl w .u32 (.slice q ys.length capy) ys)
    (ha : trim xs = []) (hb : trim ys = b) :
    Calls Try.prog 81 #[.slice p xs.length capx, .slice q ys.length capy] w (Made 73 .u32 w []) := by
  have Hx := Lib.hid hx
  have Hy := Lib.hid hy
  have Ha := Lib.hid ha
  have Hb := Lib.hid hb
  clear hx hy ha hb
  go_enter Try.func81, Try.ntmps81
  go_wp2_with fail
  refine (trim_to Hx.out Ha.out).mono ?_
  rintro e w' ⟨rfl, rfl⟩
  go_wp2_with fail
  refine (trim_to Hy.out Hb.out).mono ?_
  rintro e w' ⟨rfl, rfl⟩
  go_wp2_with fail
  go_ret
  exact ⟨_, rfl, Own.nil _ _ _ _, grown_refl _ _⟩
theorem Mul_nilB {p q : Option Addr} {capx capy : Nat} {xs ys a : List Nat} {w : World} (hx : Sl w .u32 (.slice p xs.length capx) xs) (hy : Sl w .u32 (.slice q ys.length capy) ys)
    (ha : trim xs = a) (hb : trim ys = []) (ha0 : a ≠ []) :
    Calls Try.prog 81 #[.slice p xs.length capx, .slice q ys.length capy] w (Made 73 .u32 w []) := by
  have la : a.length ≠ 0 := fun h => ha0 (List.eq_nil_of_length_eq_zero h)
  have tb : (((a.length : Nat) : Int) == 0) = false := by rw [beq_eq_false_iff_ne]; omega
  have Hx := Lib.hid hx
  have Hy := Lib.hid hy
  have Ha := Lib.hid ha
  have Hb := Lib.hid hb
  clear hx hy ha hb ha0
  go_enter Try.func81, Try.ntmps81
  go_wp2_with fail
  refine (trim_to Hx.out Ha.out).mono ?_
  rintro e w' ⟨rfl, rfl⟩
  go_wp2_with fail
  refine (trim_to Hy.out Hb.out).mono ?_
  rintro e w' ⟨rfl, rfl⟩
  go_wp2_with fail
  go_ret
  exact ⟨_, rfl, Own.nil _ _ _ _, grown_refl _ _⟩

/-- Mul of two rows of limbs. -/
theorem Mul_any {v u : Value} {xs ys : List Nat} {w : World} (hx : Sl w .u32 v xs) (hy : Sl w .u32 u ys) (ax : All 4294967296 xs) (ay : All 4294967296 ys) (lx : xs.length ≤ 4398046511104) (ly : ys.length ≤ 4398046511104) :
    Calls Try.prog 81 #[v, u] w (Made 73 .u32 w (dig 4294967296 (val 4294967296 xs * val 4294967296 ys))) := by
  obtain ⟨p, cap, rfl, -⟩ := id hx
  obtain ⟨q, capy, rfl, -⟩ := id hy
  have tx : (trim xs).length ≤ xs.length := by rw [trim_len]; exact trimTo_le _ _
  have ty : (trim ys).length ≤ ys.length := by rw [trim_len]; exact trimTo_le _ _
  rw [← trim_val (b := 4294967296) xs, ← trim_val (b := 4294967296) ys]
  by_cases ha : trim xs = []
  · rw [ha, val, Nat.zero_mul]
    exact Mul_nilA hx hy ha rfl
  · by_cases hb : trim ys = []
    · rw [hb, val, Nat.mul_zero]
      exact Mul_nilB hx hy rfl hb ha
    · exact Mul_some hx hy rfl rfl ha hb ax ay (by omega)

/-- What a division hands back. -/
def Divided (w : World) (q r : Nat) (en : Ending) (w' : World) : Prop :=
  ∃ v u, en = .returned (.tuple #[v, u]) ∧ Own w' 73 .u32 w.heap.size v (dig 4294967296 q) ∧ Own w' 73 .u32 w.heap.size u (dig 4294967296 r) ∧ v.ownBlock ≠ u.ownBlock ∧ w.grownBy w' none

end Go.Proofs.Yteblgmjpociffaa

namespace Go.Proofs.Yteblgmjpociffaa
open Go.RowKit

/-- What DivMod hands back. -/
def DivOut (w : World) (m n : Nat) (en : Ending) (w' : World) : Prop :=
  (n = 0 ∧ en = .returned (.tuple #[.slice none 0 0, .slice none 0 0, .int .i64 2]) ∧ w.grownBy w' none) ∨
  (n ≠ 0 ∧ ∃ v u, en = .returned (.tuple #[v, u, .int .i64 0]) ∧ Own w' 73 .u32 w.heap.size v (dig 4294967296 (m / n)) ∧ Own w' 73 .u32 w.heap.size u (dig 4294967296 (m % n)) ∧
    (v.ownBlock = none ∨ v.ownBlock ≠ u.ownBlock) ∧ w.grownBy w' none)

end Go.Proofs.Yteblgmjpociffaa

namespace Go.Proofs.Yteblgmjpociffaa
open Go.RowKit

theorem Row_any {p : Option Addr} {n cap k : Nat} {w : World} (hn : n ≤ cap) :
    Calls Try.prog 60 #[.slice p n cap, .int .i64 k] w fun e w' => e = .returned (.slice p (min n k) cap) ∧ w = w' := by
  by_cases h : n ≤ k
  · have h1 : ¬ (k : Int) < (n : Int) := by omega
    have h2 : ¬ k < n := by omega
    have h3 : (0 : Int) ≤ (n : Int) := by omega
    go_enter Try.func60, Try.ntmps60
    go_wp2_with fail
    go_ret
    exact ⟨rfl, rfl⟩
  · have h1 : (k : Int) < (n : Int) := by omega
    have h2 : k < n := by omega
    have h3 : k ≤ cap := by omega
    go_enter Try.func60, Try.ntmps60
    go_wp2_with fail
    go_ret
    exact ⟨by rw [Nat.min_eq_right (by omega)]; rfl, rfl⟩

theorem Row_sl {v : Value} {xs : List Nat} {kd : IntKind} {k : Nat} {w : World} (hx : Sl w kd v xs) :
    Calls Try.prog 60 #[v, .int .i64 k] w fun e w' => ∃ v', e = .returned v' ∧ Sl w kd v' (xs.take k) ∧ w = w' := by
  obtain ⟨p, cap, rfl, h1, h2, -⟩ := id hx
  refine (Row_any h1).mono ?_
  rintro e w' ⟨rfl, rfl⟩
  refine ⟨_, rfl, ?_, rfl⟩
  have := hx.take (min xs.length k) (Nat.min_le_left _ _)
  rwa [show xs.take (min xs.length k) = xs.take k by
    rcases Nat.le_total xs.length k with h | h
    · rw [Nat.min_eq_left h, List.take_length, List.take_of_length_le h]
    · rw [Nat.min_eq_right h]] at this

def eqB (xs ys : List Nat) : Bool := decide (xs = ys)
theorem eqB_self (xs : List Nat) : eqB xs xs = true := decide_eq_true rfl
theorem eqB_of {xs ys : List Nat} (h : xs = ys) : eqB xs ys = true := decide_eq_true h

theorem Same_len {p q : Option Addr} {cap cap' : Nat} {xs ys : List Nat} {w : World} (hne : xs.length ≠ ys.length) :
    Calls Try.prog 85 #[.slice p xs.length cap, .slice q ys.length cap'] w fun e w' => e = .returned (.bool (eqB xs ys)) ∧ ∃ n, w' = w.drewN n := by
  have hb : Hid (eqB xs ys = false) := decide_eq_false (fun h => hne (by rw [h]))
  have t : (((xs.length : Nat) : Int) != ((ys.length : Nat) : Int)) = true := by rw [bne_iff_ne]; omega
  go_enter Try.func85, Try.ntmps85
  go_wp2_with fail
  go_ret
  exact ⟨by rw [hb.out]; rfl, 0, rfl⟩

theorem Same_nil {p q : Option Addr} {cap cap' : Nat} {w : World} :
    Calls Try.prog 85 #[.slice p 0 cap, .slice q 0 cap'] w fun e w' => e = .returned (.bool true) ∧ ∃ n, w' = w.drewN n := by
  go_enter Try.func85, Try.ntmps85
  go_wp2_with fail
  refine wp_loop_rounds 1 ?_
  rw [rounds_succ]
  go_wp2_with fail
  go_ret
  exact ⟨rfl, 0, rfl⟩

set_option maxHeartbeats 400000 in
theorem Same_loop (b off cap b' off' cap' : Nat) (xs ys : List Nat) (w : World) (hlen : xs.length = ys.length) (hm : xs.length ≤ 9223372036854775807)
    (hc : ∀ j, j < xs.length → w.cell? ⟨b, off + j, none⟩ = some (.int .u32 (nth xs j))) (hc' : ∀ j, j < ys.length → w.cell? ⟨b', off' + j, none⟩ = some (.int .u32 (nth ys j))) :
    Calls Try.prog 85 #[.slice (some ⟨b, off, none⟩) xs.length cap, .slice (some ⟨b', off', none⟩) ys.length cap'] w fun e w' => e = .returned (.bool (eqB xs ys)) ∧ ∃ n, w' = w.drewN n := by
  have He := Lib.hid hlen
  have L1 : xs.length ≤ ys.length := by omega
  clear hlen
  rw [← He.out]
  go_enter Try.func85, Try.ntmps85
  go_wp2_with fail
  go_loopw [5] (fun i wr => ∃ (k n : Nat), k ≤ xs.length ∧ i = .int .i64 k ∧ wr = w.drewN n ∧ xs.take k = ys.take k) (fun i _ => xs.length - (intOf i).toNat)
  case atStart => exact ⟨0, 0, by omega, rfl, rfl, rfl⟩
  case round =>
    obtain ⟨k, d, hk, rfl, rfl, hdr⟩ := hrel
    have HD := Lib.hid hdr
    clear hdr
    by_cases hlt : k < xs.length
    · have ka := hc k hlt
      have kc := hc' k (by omega)
      have b1 : (k : Int) < (xs.length : Int) := by omega
      clear hc hc'
      by_cases hne : nth xs k = nth ys k
      · have hb : (((nth xs k : Nat) : Int) != ((nth ys k : Nat) : Int)) = false := by rw [hne]; simp
        have HE := Lib.hid hne
        clear hne
        go_wp2
        go_quiet (fail)
        go_wp2
        go_roundw
        case rel => exact ⟨k + 1, _, by omega, by go_num, rfl, by rw [take_step xs hlt, take_step ys (by omega), HD.out, HE.out]⟩
        case measure => simp [intOf]; omega
      · have hb : (((nth xs k : Nat) : Int) != ((nth ys k : Nat) : Int)) = true := by rw [bne_iff_ne]; omega
        have HE : Hid (eqB xs ys = false) := decide_eq_false (fun h => hne (by rw [h]))
        go_wp2
        go_quiet (fail)
        go_wp2
        go_ret
        exact ⟨by rw [HE.out]; rfl, _, by rw [World.drewN_drewN]⟩
    · obtain rfl : k = xs.length := by omega
      clear hc hc'
      have HE : Hid (eqB xs ys = true) := by
        have := HD.out
        rw [List.take_length, He.out, List.take_length] at this
        exact decide_eq_true this
      go_wp2
      go_ret
      exact ⟨by rw [HE.out]; rfl, _, rfl⟩

theorem Same_any {v u : Value} {xs ys : List Nat} {w : World} (hx : Sl w .u32 v xs) (hy : Sl w .u32 u ys) :
    Calls Try.prog 85 #[v, u] w fun e w' => e = .returned (.bool (eqB xs ys)) ∧ ∃ n, w' = w.drewN n := by
  obtain ⟨p, cap, rfl, h1, h2, h3⟩ := hx
  obtain ⟨p', cap', rfl, h1', h2', h3'⟩ := hy
  by_cases hl : xs.length = ys.length
  · rcases h3 with rfl | ⟨b, off, rfl, h4, h5⟩
    · obtain rfl : ys = [] := List.eq_nil_of_length_eq_zero hl.symm
      exact Same_nil
    · rcases h3' with rfl | ⟨b', off', rfl, h4', h5'⟩
      · obtain rfl : xs = [] := List.eq_nil_of_length_eq_zero hl
        exact Same_nil
      · exact Same_loop b off cap b' off' cap' xs ys w hl (by omega) h5 h5'
  · exact Same_len hl

theorem Same_b {v u : Value} {xs ys : List Nat} {w : World} (hx : Sl w .u32 v xs) (hy : Sl w .u32 u ys) :
    Calls Try.prog 85 #[v, u] w fun e w' => e = .returned (.bool (eqB xs ys)) ∧ w.grownBy w' none :=
  (Same_any hx hy).mono fun _ _ ⟨h, n, hw⟩ => ⟨h, by rw [hw]; exact grown_drewN _ _ _⟩
theorem Cmp_b {v u : Value} {xs ys : List Nat} {w : World} (hx : Sl w .u32 v xs) (hy : Sl w .u32 u ys) (ax : All 4294967296 xs) (ay : All 4294967296 ys) :
    Calls Try.prog 84 #[v, u] w fun e w' => e = .returned (.int .i64 (cmpN (val 4294967296 xs) (val 4294967296 ys))) ∧ w.grownBy w' none :=
  (Cmp_any hx hy ax ay).mono fun _ _ ⟨h, n, hw⟩ => ⟨h, by rw [hw]; exact grown_drewN _ _ _⟩

end Go.Proofs.Yteblgmjpociffaa

namespace Go.Proofs.Yteblgmjpociffaa
open Go.RowKit

/-- A literal of one number. -/
theorem Own.one (w : World) (k : IntKind) (e : TypeId) (x : Nat) : Own (w.alloc (.cells #[.int k x] e)) e k w.heap.size (.slice (some ⟨w.heap.size, 0, none⟩) 1 1) [x] := by
  refine .inr ⟨w.heap.size, 1, fun _ => .int k x, rfl, Nat.le_refl _, ?_, Nat.le_refl _, by omega, fun j hj => ?_⟩
  · exact RowF.made w #[.int k x] e _ (fun j hj => by
      have : j = 0 := by simpa using hj
      subst this; rfl)
  · have : j = 0 := by simpa using hj
    subst this; rfl

/-- What a bool function that makes memory hands back. -/
def Bool_ (w : World) (b : Bool) (en : Ending) (w' : World) : Prop := en = .returned (.bool b) ∧ w.grownBy w' none

end Go.Proofs.Yteblgmjpociffaa
