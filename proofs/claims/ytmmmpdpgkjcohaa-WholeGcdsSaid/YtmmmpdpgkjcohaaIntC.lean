/- Package whole: Add, Sub, DivMod, Exact; Int's methods. -/
import Derived.Test.YtmmmpdpgkjcohaaIntB
namespace Go.Proofs.Ytmmmpdpgkjcohaa
open Go.RowKit

theorem MadeI.of {w w' : World} {z y : Int} {k l : Nat} {e : Ending} (h : MadeI w z k e w') (hz : z = y) (hk : k ≤ l) : MadeI w y l e w' := by
  subst hz
  obtain ⟨v, h1, h2, h3, h4⟩ := h
  exact ⟨v, h1, h2, h3.more hk, h4⟩
theorem Add_i {v u : Value} {z y : Int} {i j : Nat} {w : World} (hx : IntV w v z i) (hy : IntV w u y j) (hi : i + j ≤ 1000000) :
    Calls Try.prog 13 #[v, u] w (MadeI w (z + y) (i + j + 1)) := by
  obtain ⟨b, s, X, rfl, hx, rfl⟩ := hx
  obtain ⟨b', s', Y, rfl, hy, rfl⟩ := hy
  cases b <;> cases b'
  · exact (Add_same hx hy hi).mono fun _ _ h => h
  · exact (Add_ft hx hy hi).mono fun _ _ h => h.of (by simp [sg]; omega) (by omega)
  · exact (Add_tf hx hy hi).mono fun _ _ h => h.of (by simp [sg]; omega) (by omega)
  · exact (Add_same hx hy hi).mono fun _ _ h => h

set_option maxHeartbeats 1000000 in
theorem Sub_i {v u : Value} {z y : Int} {i j : Nat} {w : World} (hx : IntV w v z i) (hy : IntV w u y j) (hi : i + j ≤ 1000000) :
    Calls Try.prog 17 #[v, u] w (MadeI w (z - y) (i + j + 1)) := by
  obtain ⟨b, s, X, rfl, hx, rfl⟩ := hx
  obtain ⟨p, n, cap, rfl⟩ := hx.slice
  obtain ⟨b', s', Y, rfl, hy, rfl⟩ := hy
  obtain ⟨q, m, cap', rfl⟩ := hy.slice
  have Hx := Lib.hid hx
  have Hy := Lib.hid hy
  have S0 : Kept w [(w.heap.size + 1, 0, .bool b'), (w.heap.size + 1, 1, .slice q m cap'), (w.heap.size, 0, .bool b), (w.heap.size, 1, .slice p n cap)] [w.heap.size + 1 + 1] (((w.alloc (.cells #[.bool b, .slice p n cap] 24)).alloc (.cells #[.bool b', .slice q m cap'] 24)).alloc (.cells #[.bool false, .slice none 0 0] 24)) := (((Kept.start w).box _ _ _ _ rfl).box _ _ _ _ (by simp)).res _ _ _ _ _ (by simp)
  have Vx := Lib.hid (show IntV w (.agg #[.bool b, .slice p n cap]) (sg b X) i from ⟨_, _, _, rfl, hx, rfl⟩)
  have Vy := Lib.hid (show IntV w (.agg #[.bool (!b'), .slice q m cap']) (- sg b' Y) j from ⟨_, _, _, rfl, hy, (sg_not _ _).symm⟩)
  clear hx hy Hx Hy
  rw [Int.sub_eq_add_neg]
  go_enter Try.func17, Try.ntmps17
  go_wp2_with fail
  refine (Add_i (Vx.out.grown (Kept.all _ _ S0)) (Vy.out.grown (Kept.all _ _ S0)) hi).mono ?_
  rintro e w' ⟨v, rfl, ho, bd, hg⟩
  obtain ⟨pv, nv, rfl, ho2⟩ := id ho
  clear ho2
  have S1 := S0
  replace S0 := Kept.grown _ _ S0 hg
  clear hg
  obtain ⟨c0, c1, c2, c3, r0, r1, r2, r3, G⟩ := id S0
  go_wp2_with fail
  exact end_made Try.results17 rfl rfl (set2_fst r0) (set2_snd r1) (Kept.all _ _ (Kept.set _ _ (by simp <;> omega) (by first | omega | (simp <;> omega)) S0)) ho S1.size (S1.lt (by simp)) bd

theorem Zero_i {b : Bool} {p : Option Addr} {n cap : Nat} {w : World} :
    Calls Try.prog 41 #[.agg #[.bool b, .slice p n cap]] w fun e w' => e = .returned (.bool (decide (n = 0))) ∧ w.grownBy w' none := by
  go_enter Try.func41, Try.ntmps41
  go_wp2_with fail
  go_ret
  refine ⟨?_, grown_alloc _ _ _⟩
  have e : ((n : Int) == 0) = decide (n = 0) := by
    rw [Bool.eq_iff_iff]
    simp
  rw [e]
  rfl

theorem Sign_i {b : Bool} {p : Option Addr} {n cap : Nat} {w : World} :
    Calls Try.prog 43 #[.agg #[.bool b, .slice p n cap]] w fun e w' => e = .returned (.int .i64 (if n = 0 then 0 else if b then -1 else 1)) ∧ w.grownBy w' none := by
  rcases Nat.eq_zero_or_pos n with rfl | hn
  · go_enter Try.func43, Try.ntmps43
    go_wp2_with fail
    go_ret
    exact ⟨rfl, grown_alloc _ _ _⟩
  · rw [if_neg (by omega)]
    have hn' : (n : Int) ≠ 0 := by omega
    cases b
    all_goals
      go_enter Try.func43, Try.ntmps43
      go_wp2_with fail
      go_ret
      exact ⟨rfl, grown_alloc _ _ _⟩

end Go.Proofs.Ytmmmpdpgkjcohaa
