/- Package limb: DivMod where the divisor is 0, is greater, or has one limb. -/
import Derived.Test.YtmmmpdpgkjcohaaLimbJ
namespace Go.Proofs.Ytmmmpdpgkjcohaa
open Go.RowKit

/-- What DivMod hands back. -/
def DivOut (w : World) (m n : Nat) (en : Ending) (w' : World) : Prop :=
  (n = 0 ∧ en = .returned (.tuple #[.slice none 0 0, .slice none 0 0, .int .i64 2]) ∧ w.grownBy w' none) ∨
  (n ≠ 0 ∧ ∃ v u, en = .returned (.tuple #[v, u, .int .i64 0]) ∧ Own w' 65 .u32 w.heap.size v (dig 4294967296 (m / n)) ∧ Own w' 65 .u32 w.heap.size u (dig 4294967296 (m % n)) ∧
    (v.ownBlock = none ∨ v.ownBlock ≠ u.ownBlock) ∧ w.grownBy w' none)

theorem DivMod_zero {p q : Option Addr} {capx capy : Nat} {xs ys : List Nat} {w : World} (m : Nat) (hx : Sl w .u32 (.slice p xs.length capx) xs) (hy : Sl w .u32 (.slice q ys.length capy) ys)
    (hb : trim ys = []) :
    Calls Try.prog 71 #[.slice p xs.length capx, .slice q ys.length capy] w (DivOut w m 0) := by
  have Hx := Lib.hid hx
  have Hy := Lib.hid hy
  have Hb := Lib.hid hb
  clear hx hy hb
  go_enter Try.func71, Try.ntmps71
  go_wp2_with fail
  refine (trim_any _ _ _ _ _ Hx.out).mono ?_
  rintro e w' ⟨rfl, rfl⟩
  go_wp2_with fail
  refine (trim_to Hy.out Hb.out).mono ?_
  rintro e w' ⟨rfl, rfl⟩
  go_wp2_with fail
  go_ret3
  exact .inl ⟨rfl, rfl, grown_refl _ _⟩

theorem DivMod_less {p q : Option Addr} {capx capy : Nat} {xs ys a b : List Nat} {w : World} (hx : Sl w .u32 (.slice p xs.length capx) xs) (hy : Sl w .u32 (.slice q ys.length capy) ys)
    (ha : trim xs = a) (hb : trim ys = b) (hlt : a.length < b.length) (ax : All 4294967296 xs) (ay : All 4294967296 ys) (lx : xs.length ≤ 8796093022208) :
    Calls Try.prog 71 #[.slice p xs.length capx, .slice q ys.length capy] w (DivOut w (val 4294967296 a) (val 4294967296 b)) := by
  have Hx := Lib.hid hx
  have Hy := Lib.hid hy
  have Hta := Lib.hid (show Sl w .u32 (.slice p a.length capx) a from ha ▸ hx.trim)
  have Aa := Lib.hid (show All 4294967296 a from ha ▸ ax.take _)
  have la : a.length ≤ 8796093022208 := by have := trimTo_le xs xs.length; rw [← ha, trim_len]; omega
  have Hv := Lib.hid (show val 4294967296 a < val 4294967296 b by
    have e1 := trim_eq (by omega) ax
    have e2 := trim_eq (by omega) ay
    rw [ha] at e1
    rw [hb] at e2
    rw [e1, e2] at hlt
    rw [← ha, ← hb, trim_val, trim_val]
    exact dig_len_lt (by omega) hlt)
  have Ha := Lib.hid ha
  have Hb := Lib.hid hb
  have tb : (((b.length : Nat) : Int) == 0) = false := by rw [beq_eq_false_iff_ne]; omega
  clear hx hy ha hb ax ay
  go_enter Try.func71, Try.ntmps71
  go_wp2_with fail
  refine (trim_to Hx.out Ha.out).mono ?_
  rintro e w' ⟨rfl, rfl⟩
  go_wp2_with fail
  refine (trim_to Hy.out Hb.out).mono ?_
  rintro e w' ⟨rfl, rfl⟩
  go_wp2_with fail
  refine (Norm_any Hta.out (by omega)).mono ?_
  rintro e w1 ⟨u, rfl, ho, hg⟩
  have Ho := Lib.hid ho
  have Hg := Lib.hid hg
  clear ho hg
  go_wp2_with fail
  go_ret3
  have hv := Hv.out
  refine .inr ⟨by omega, _, _, rfl, ?_, ?_, .inl rfl, Hg.out⟩
  · rw [Nat.div_eq_of_lt hv]; exact Own.nil _ _ _ _
  · rw [Nat.mod_eq_of_lt hv, ← trim_eq (by omega) Aa.out]; exact Ho.out

theorem DivMod_short {p q : Option Addr} {capx capy d : Nat} {xs ys a : List Nat} {w : World} (hx : Sl w .u32 (.slice p xs.length capx) xs) (hy : Sl w .u32 (.slice q ys.length capy) ys)
    (ha : trim xs = a) (hb : trim ys = [d]) (hge : 1 ≤ a.length) (ax : All 4294967296 xs) (ay : All 4294967296 ys) (lx : xs.length ≤ 8796093022208) :
    Calls Try.prog 71 #[.slice p xs.length capx, .slice q ys.length capy] w (DivOut w (val 4294967296 a) d) := by
  have Hx := Lib.hid hx
  have Hy := Lib.hid hy
  have Hta := Lib.hid (show Sl w .u32 (.slice p a.length capx) a from ha ▸ hx.trim)
  have Aa := Lib.hid (show All 4294967296 a from ha ▸ ax.take _)
  have la : a.length ≤ 8796093022208 := by have := trimTo_le xs xs.length; rw [← ha, trim_len]; omega
  have Htb : Sl w .u32 (.slice q 1 capy) [d] := by have := hy.trim; rw [hb] at this; exact this
  have e2 := trim_eq (by omega) ay
  have hd0 : 0 < d := by
    have t := dig_top (b := 4294967296) (by omega) (val 4294967296 ys)
    rw [← e2, hb] at t
    rcases t with t | t
    · cases t
    · simp [nth] at t; omega
  have hd : d < 4294967296 := by
    have := dig_all (b := 4294967296) (by omega) (val 4294967296 ys)
    rw [← e2, hb] at this
    exact this.head
  obtain ⟨q', cap', e', -, -, h3⟩ := Htb
  have hqq : q' = q := by cases e'; rfl
  subst hqq
  rcases h3 with h3 | ⟨bb, off, rfl, hbl, hyy⟩
  · cases h3
  have c1 := hyy 0 (by simp)
  rw [show nth [d] 0 = d from rfl, Nat.add_zero] at c1
  have Ha := Lib.hid ha
  have Hb := Lib.hid hb
  have tb : decide (a.length < 1) = false := decide_eq_false (by omega)
  have tb2 : ¬ (a.length < 1) := by omega
  clear hx hy ha hb ax ay hyy e' e2
  go_enter Try.func71, Try.ntmps71
  go_wp2_with fail
  refine (trim_to Hx.out Ha.out).mono ?_
  rintro e w' ⟨rfl, rfl⟩
  go_wp2_with fail
  refine (trim_to Hy.out Hb.out).mono ?_
  rintro e w' ⟨rfl, rfl⟩
  go_wp2_with fail
  refine (divShort_any d Hta.out Aa.out hd0 hd la).mono ?_
  rintro e w1 ⟨v, u, rfl, ho, hu, hne, hg⟩
  have Ho := Lib.hid ho
  have Hu := Lib.hid hu
  have Hne := Lib.hid hne
  have Hg := Lib.hid hg
  clear ho hu hne hg
  go_wp2_with fail
  go_ret3
  exact .inr ⟨by omega, _, _, rfl, Ho.out, Hu.out, .inr Hne.out, Hg.out⟩

end Go.Proofs.Ytmmmpdpgkjcohaa
