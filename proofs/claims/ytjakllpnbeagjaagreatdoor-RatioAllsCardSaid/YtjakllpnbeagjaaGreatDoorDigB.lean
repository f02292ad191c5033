/- Package digits: which texts are none; strings.Cut at the first slash. -/
import Derived.Test.YtjakllpnbeagjaaGreatDoorDigA
import Derived.Test.YtjakllpnbeagjaaGreatDoorDigM
namespace Go.Proofs.YtjakllpnbeagjaaGreatDoor
open Go.RowKit

set_option maxHeartbeats 4000000 in
set_option maxRecDepth 100000 in
theorem allDigits_no {s : ByteArray} {w : World} (hd : allD s.data.toList = false) (hl : s.size ≤ 400) :
    Calls Tryz.prog 49 #[.string s] w (Bool_ w false) := by
  have HD := Lib.hid hd
  clear hd
  have hcv := Lib.run_convert_string_bytes (P := Tryz.prog) w 9 55 5 s (u := .string) Tryz.underlying9 Tryz.underlying55 Tryz.underlying5
  go_enter Tryz.func49, Tryz.ntmps49
  go_wp2_with fail
  clear hcv
  have hB : ∀ j, j < s.size → (Lib.bytesWorld w 5 s).cell? ⟨w.heap.size, j, none⟩ = some (.int .u8 (s.data.toList.getD j 0).toNat) := fun j hj => Lib.bytesWorld_cell w 5 s j hj
  have HB := Lib.hid hB
  have HG := Lib.hid (bytes_grown w 5 s)
  clear hB
  generalize Lib.bytesWorld w 5 s = W1 at *
  go_loop [8] (fun iv => ∃ k : Nat, k ≤ s.size ∧ iv = .int .i64 (k : Int) ∧ Hid (allD (s.data.toList.drop k) = false)) (fun iv => s.size - (intOf iv).toNat)
  case atStart => exact ⟨0, Nat.zero_le _, rfl, HD.out⟩
  case round =>
    obtain ⟨k, hk, rfl, HK⟩ := hrel
    by_cases h0 : k < s.size
    · have k0 : (k : Int) < (s.size : Int) := by omega
      have c3 := Lib.hid (allD_no HK.out (by rw [← Lib.size_eq]; exact h0))
      have hc := HB.out k h0
      obtain ⟨c, hcc⟩ : ∃ c : Nat, (s.data.toList.getD k 0).toNat = c := ⟨_, rfl⟩
      rw [hcc] at c3 hc
      have c9 : c < 256 := by have := (s.data.toList.getD k 0).toNat_lt; omega
      clear hcc
      by_cases c1 : c < 48
      · have c2 : (c : Int) < 48 := by omega
        go_wp2_with fail
        go_ret
        exact ⟨rfl, HG.out⟩
      · have c2 : ¬ (c : Int) < 48 := by omega
        by_cases c4 : 57 < c
        · have c5 : (57 : Int) < (c : Int) := by omega
          go_wp2_with fail
          go_ret
          exact ⟨rfl, HG.out⟩
        · have c5 : ¬ (57 : Int) < (c : Int) := by omega
          have H3 := Lib.hid (c3.out (by omega) (by omega))
          go_wp2_with fail
          go_round
          case rel => exact ⟨k + 1, by omega, by go_num, H3.out⟩
          case measure => simp [intOf]; omega
    · exfalso
      have := HK.out
      rw [List.drop_eq_nil_of_le (by rw [← Lib.size_eq]; omega)] at this
      simp [allD] at this

set_option maxHeartbeats 4000000 in
set_option maxRecDepth 100000 in
theorem Cut_in_yes {s : ByteArray} {k : Nat} (w : World) (hl : s.size ≤ 100000) (h : hasSlash s.data.toList = true) (hk : slashAt s.data.toList = k) : Calls Tryz.prog 99 #[.string s, .string ⟨#[47]⟩] w fun e w' => e = .returned (.tuple #[.string (s.extract 0 k), .string (s.extract (k + 1) s.size), .bool true]) ∧ w.grownBy w' none := by
  have hi : Lib.indexByte s.data.toList 47 = (k : Int) := by rw [index_slash, if_pos h, hk]
  have hks : k + 1 ≤ s.size := by have h2 := of_decide_eq_true h; rw [Lib.size_eq]; omega
  have Hi := Lib.hid hi
  clear hi h hk
  have k1 : (k : Int) ≤ (s.size : Int) := by omega
  have k2 : (k : Int) + 1 ≤ (s.size : Int) := by omega
  have k3 : 0 ≤ (k : Int) + 1 := by omega
  have k5 : ((k : Int) + 1).toNat = k + 1 := by omega
  have k4 : IntKind.i64.wrap ((k : Int) + 1) = (k : Int) + 1 := IntWalk.i64_in _ (by omega)
  go_enter Tryz.func99, Tryz.ntmps99
  go_wp2_with (go_at_call 118; (with_reducible refine (Tryz.stringslite_Index_one s 47 _).mono ?_); rintro e w1 ⟨rfl, rfl⟩; rw [Hi.out])
  go_region
  all_goals go_wp2_with fail
  all_goals (go_ret3; exact ⟨rfl, grown_drew _ _⟩)
set_option maxHeartbeats 4000000 in
set_option maxRecDepth 100000 in
theorem Cut_in_no {s : ByteArray} (w : World) (h : hasSlash s.data.toList = false) : Calls Tryz.prog 99 #[.string s, .string ⟨#[47]⟩] w fun e w' => e = .returned (.tuple #[.string s, .string ⟨#[]⟩, .bool false]) ∧ w.grownBy w' none := by
  have hi : Lib.indexByte s.data.toList 47 = -1 := by rw [index_slash, if_neg (by simp [h])]
  have Hi := Lib.hid hi
  clear hi h
  go_enter Tryz.func99, Tryz.ntmps99
  go_wp2_with (go_at_call 118; (with_reducible refine (Tryz.stringslite_Index_one s 47 _).mono ?_); rintro e w1 ⟨rfl, rfl⟩; rw [Hi.out])
  go_ret3
  exact ⟨rfl, grown_refl _ _⟩
theorem Cut_yes {s : ByteArray} {k : Nat} (w : World) (hl : s.size ≤ 100000) (h : hasSlash s.data.toList = true) (hk : slashAt s.data.toList = k) : Calls Tryz.prog 66 #[.string s, .string ⟨#[47]⟩] w fun e w' => e = .returned (.tuple #[.string (s.extract 0 k), .string (s.extract (k + 1) s.size), .bool true]) ∧ w.grownBy w' none := by
  go_enter Tryz.func66, Tryz.ntmps66
  go_wp2_with fail
  with_reducible refine (Cut_in_yes _ hl h hk).mono ?_
  rintro e w1 ⟨rfl, g⟩
  have G := Lib.hid g
  clear g
  go_wp2_with fail
  go_ret3
  exact ⟨rfl, G.out⟩
theorem Cut_no {s : ByteArray} (w : World) (h : hasSlash s.data.toList = false) : Calls Tryz.prog 66 #[.string s, .string ⟨#[47]⟩] w fun e w' => e = .returned (.tuple #[.string s, .string ⟨#[]⟩, .bool false]) ∧ w.grownBy w' none := by
  go_enter Tryz.func66, Tryz.ntmps66
  go_wp2_with fail
  with_reducible refine (Cut_in_no _ h).mono ?_
  rintro e w1 ⟨rfl, g⟩
  have G := Lib.hid g
  clear g
  go_wp2_with fail
  go_ret3
  exact ⟨rfl, G.out⟩
end Go.Proofs.YtjakllpnbeagjaaGreatDoor
