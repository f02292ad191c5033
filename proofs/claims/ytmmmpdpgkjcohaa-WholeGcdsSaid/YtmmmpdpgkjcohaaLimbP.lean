/- Package limb: DivMod, whatever it is given. -/
import Derived.Test.YtmmmpdpgkjcohaaLimbO
namespace Go.Proofs.Ytmmmpdpgkjcohaa
open Go.RowKit

theorem DivMod_long {p q : Option Addr} {capx capy : Nat} {xs ys a b : List Nat} {w : World} (hx : Sl w .u32 (.slice p xs.length capx) xs) (hy : Sl w .u32 (.slice q ys.length capy) ys)
    (ha : trim xs = a) (hb : trim ys = b) (hn : 2 ≤ b.length) (hge : b.length ≤ a.length) (ax : All 4294967296 xs) (ay : All 4294967296 ys) (lx : xs.length ≤ 8796093022208) :
    Calls Try.prog 71 #[.slice p xs.length capx, .slice q ys.length capy] w (DivOut w (val 4294967296 a) (val 4294967296 b)) := by
  have Hx := Lib.hid hx
  have Hy := Lib.hid hy
  have Hta := Lib.hid (show Sl w .u32 (.slice p a.length capx) a from ha ▸ hx.trim)
  have Htb := Lib.hid (show Sl w .u32 (.slice q b.length capy) b from hb ▸ hy.trim)
  have Aa := Lib.hid (show All 4294967296 a from ha ▸ ax.take _)
  have Ab := Lib.hid (show All 4294967296 b from hb ▸ ay.take _)
  have la : a.length ≤ 8796093022208 := by have := trimTo_le xs xs.length; rw [← ha, trim_len]; omega
  have ht : nth b (b.length - 1) ≠ 0 := by
    have e2 := trim_eq (by omega) ay
    have t := dig_top (b := 4294967296) (by omega) (val 4294967296 ys)
    rw [← e2, hb] at t
    rcases t with t | t
    · rw [t] at hn; simp at hn
    · exact t
  have hvb : val 4294967296 b ≠ 0 := by
    have := val_pos (b := 4294967296) (by omega) (.inr ht) (by intro h; rw [h] at hn; simp at hn)
    omega
  have Ht := Lib.hid ht
  have Hvb := Lib.hid hvb
  have Ha := Lib.hid ha
  have Hb := Lib.hid hb
  have tb : (((b.length : Nat) : Int) == 0) = false := by rw [beq_eq_false_iff_ne]; omega
  have tb1 : (((b.length : Nat) : Int) == 1) = false := by rw [beq_eq_false_iff_ne]; omega
  have tb2 : decide (a.length < b.length) = false := decide_eq_false (by omega)
  have tb3 : ¬ a.length < b.length := by omega
  clear hx hy ha hb ax ay ht hvb
  go_enter Try.func71, Try.ntmps71
  go_wp2_with fail
  refine (trim_to Hx.out Ha.out).mono ?_
  rintro e w' ⟨rfl, rfl⟩
  go_wp2_with fail
  refine (trim_to Hy.out Hb.out).mono ?_
  rintro e w' ⟨rfl, rfl⟩
  go_wp2_with fail
  refine (divLong_any Hta.out Htb.out Aa.out Ab.out hn hge la Ht.out).mono ?_
  rintro e w1 ⟨v, u, rfl, ho, hu, hne, hg⟩
  have Ho := Lib.hid ho
  have Hu := Lib.hid hu
  have Hne := Lib.hid hne
  have Hg := Lib.hid hg
  clear ho hu hne hg
  go_wp2_with fail
  go_ret3
  exact .inr ⟨Hvb.out, _, _, rfl, Ho.out, Hu.out, .inr Hne.out, Hg.out⟩

/-- DivMod of any two rows of limbs. -/
theorem DivMod_any {v u : Value} {xs ys : List Nat} {w : World} (hx : Sl w .u32 v xs) (hy : Sl w .u32 u ys) (ax : All 4294967296 xs) (ay : All 4294967296 ys) (lx : xs.length ≤ 8796093022208) :
    Calls Try.prog 71 #[v, u] w (DivOut w (val 4294967296 xs) (val 4294967296 ys)) := by
  obtain ⟨p, cap, rfl, -⟩ := id hx
  obtain ⟨q, capy, rfl, -⟩ := id hy
  rw [← trim_val (b := 4294967296) xs, ← trim_val (b := 4294967296) ys]
  by_cases hb : trim ys = []
  · rw [hb]
    exact DivMod_zero _ hx hy hb
  · have lb : (trim ys).length ≠ 0 := fun h => hb (List.eq_nil_of_length_eq_zero h)
    by_cases hlt : (trim xs).length < (trim ys).length
    · exact DivMod_less hx hy rfl rfl hlt ax ay lx
    · by_cases h1 : (trim ys).length = 1
      · obtain ⟨d, hd⟩ : ∃ d, trim ys = [d] := List.length_eq_one_iff.1 h1
        rw [hd, show val 4294967296 [d] = d by simp [val]]
        exact DivMod_short hx hy rfl hd (by omega) ax ay lx
      · exact DivMod_long hx hy rfl rfl (by omega) (by omega) ax ay lx

end Go.Proofs.Ytmmmpdpgkjcohaa
