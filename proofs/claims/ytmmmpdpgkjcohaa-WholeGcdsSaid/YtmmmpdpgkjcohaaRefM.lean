/- The reference's whole numbers: Mul, Add, Sub, Cmp of numbers, Of, Same. -/
import Derived.Test.YtmmmpdpgkjcohaaRefL
namespace Go.Proofs.Ytmmmpdpgkjcohaa
open Go.RowKit

theorem DecI.open {w : World} {v : Value} {z : Int} {k : Nat} (h : DecI w v z k) : ∃ (b : Bool) (p : Option Addr) (n cap X : Nat), v = .agg #[.slice p n cap, .bool b] ∧ Dec w (.slice p n cap) X k ∧ z = sg b X := by
  obtain ⟨p, cap, h1, h2⟩ := h
  exact ⟨_, p, _, cap, _, h1, h2, (sg_self z).symm⟩
theorem Mul_r {v u : Value} {z y : Int} {i j : Nat} {w : World} (hx : DecI w v z i) (hy : DecI w u y j) (hi : i + j ≤ 1000000) :
    Calls Try.prog 18 #[v, u] w (MadeR w (z * y) (i + j)) := by
  obtain ⟨b, p, n, cap, X, rfl, dx, rfl⟩ := hx.open
  obtain ⟨b', q, m, cap', Y, rfl, dy, rfl⟩ := hy.open
  exact Mul_d dx dy hi
theorem Add_r {v u : Value} {z y : Int} {i j : Nat} {w : World} (hx : DecI w v z i) (hy : DecI w u y j) (hi : i + j ≤ 1000000) :
    Calls Try.prog 15 #[v, u] w (MadeR w (z + y) (i + j + 1)) := by
  obtain ⟨b, p, n, cap, X, rfl, dx, rfl⟩ := hx.open
  obtain ⟨b', q, m, cap', Y, rfl, dy, rfl⟩ := hy.open
  cases b <;> cases b'
  · exact Add_same_d dx dy hi
  · by_cases hc : Y ≤ X
    · exact (Add_ft_ge_d dx dy hi hc).mono fun _ _ h => h.of (by simp [sg]; omega) (by omega)
    · exact (Add_ft_lt_d dx dy hi (by omega)).mono fun _ _ h => h.of (by simp [sg]; omega) (by omega)
  · by_cases hc : Y ≤ X
    · exact (Add_tf_ge_d dx dy hi hc).mono fun _ _ h => h.of (by simp [sg]; omega) (by omega)
    · exact (Add_tf_lt_d dx dy hi (by omega)).mono fun _ _ h => h.of (by simp [sg]; omega) (by omega)
  · exact Add_same_d dx dy hi

set_option maxHeartbeats 2000000 in
theorem Sub_r {v u : Value} {z y : Int} {i j : Nat} {w : World} (hx : DecI w v z i) (hy : DecI w u y j) (hi : i + j ≤ 1000000) :
    Calls Try.prog 16 #[v, u] w (MadeR w (z - y) (i + j + 1)) := by
  have Vx := Lib.hid hx
  have Vy := Lib.hid hy
  obtain ⟨b, p, n, cap, X, rfl, hx', rfl⟩ := hx.open
  obtain ⟨b', q, m, cap', Y, rfl, hy', rfl⟩ := hy.open
  clear hx' hy' hx hy
  have S0 : Kept w [(w.heap.size + 1, 0, (.slice q m cap')), (w.heap.size + 1, 1, (.bool b')), (w.heap.size, 0, (.slice p n cap)), (w.heap.size, 1, (.bool b))] [w.heap.size + 1 + 1] (((w.alloc (.cells #[.slice p n cap, .bool b] 28)).alloc (.cells #[.slice q m cap', .bool b'] 28)).alloc (.cells #[.slice none 0 0, .bool false] 28)) := (((Kept.start w).box _ _ _ _ rfl).box _ _ _ _ (by simp)).res _ _ _ _ _ (by simp)
  rw [Int.sub_eq_add_neg]
  go_enter Try.func16, Try.ntmps16
  go_wp2_with fail
  go_region_held3 (fun w' => w'.cell? ⟨w.heap.size + 1, 0, none⟩ = some ((.slice q m cap')) ∧ w'.cell? ⟨w.heap.size + 1, 1, none⟩ = some ((.bool b')) ∧ w'.cell? ⟨w.heap.size, 0, none⟩ = some ((.slice p n cap)) ∧ w'.cell? ⟨w.heap.size, 1, none⟩ = some ((.bool b)) ∧ w'.cell? ⟨w.heap.size + 1 + 1, 0, none⟩ = some (cellOf w' ⟨w.heap.size + 1 + 1, 0, none⟩) ∧ w'.cell? ⟨w.heap.size + 1 + 1, 1, none⟩ = some (cellOf w' ⟨w.heap.size + 1 + 1, 1, none⟩) ∧ w'.frozen? ⟨w.heap.size + 1 + 1, 0, none⟩ = false ∧ w'.frozen? ⟨w.heap.size + 1 + 1, 1, none⟩ = false ∧ w.grownBy w' none) (first | exact Kept.step (W := w) [(w.heap.size + 1, 0, (.slice q m cap')), (w.heap.size + 1, 1, (.bool b')), (w.heap.size, 0, (.slice p n cap)), (w.heap.size, 1, (.bool b))] [w.heap.size + 1 + 1] (by assumption) (by assumption) | exact Kept.set (W := w) [(w.heap.size + 1, 0, (.slice q m cap')), (w.heap.size + 1, 1, (.bool b')), (w.heap.size, 0, (.slice p n cap)), (w.heap.size, 1, (.bool b))] [w.heap.size + 1 + 1] (by simp <;> omega) (by first | omega | (simp <;> omega)) (by assumption) | exact Kept.step [(w.heap.size + 1, 0, (.slice q m cap')), (w.heap.size + 1, 1, (.bool b')), (w.heap.size, 0, (.slice p n cap)), (w.heap.size, 1, (.bool b))] [w.heap.size + 1 + 1] (grown_drew _ _) S0)
    (first | (go_at_call 20; refine (Neg_r (Vy.out.grown (by go_split_ands; assumption))).mono ?_; rintro e w' ⟨v, rfl, hn, hg⟩) | (go_at_call 15; refine (Add_r (Vx.out.grown (by go_split_ands; assumption)) hn hi).mono ?_; have hsz := hg.size; rintro e w' ⟨v, rfl, h, bd, hg⟩; obtain ⟨pv, nv, rfl, h2⟩ := id h))
  rename_i hend
  go_wp2_with fail
  exact end_own Try.results16 rfl rfl hend.2.2.2.2.1 hend.2.2.2.2.2.1 hend.2.2.2.2.2.2.2.2 h (by simp at hsz; omega) (by simp at hsz; omega) bd

theorem cmpI_sub (z y : Int) : cmpI (z - y) 0 = cmpI z y := by
  unfold cmpI
  split <;> split <;> (try split) <;> (try split) <;> omega
set_option maxHeartbeats 1000000 in
theorem Cmp_r {v u : Value} {z y : Int} {i j : Nat} {w : World} (r : Int) (hx : DecI w v z i) (hy : DecI w u y j) (hi : i + j ≤ 1000000) (hr : cmpI z y = r) :
    Calls Try.prog 25 #[v, u] w fun e w' => e = .returned (.int .i64 r) ∧ w.grownBy w' none := by
  subst hr
  rw [← cmpI_sub]
  have Vx := Lib.hid hx
  have Vy := Lib.hid hy
  obtain ⟨b, p, n, cap, X, rfl, hx', rfl⟩ := hx.open
  obtain ⟨b', q, m, cap', Y, rfl, hy', rfl⟩ := hy.open
  clear hx' hy' hx hy
  have S0 : Kept w [(w.heap.size + 1, 0, (.slice q m cap')), (w.heap.size + 1, 1, (.bool b')), (w.heap.size, 0, (.slice p n cap)), (w.heap.size, 1, (.bool b))] [] ((w.alloc (.cells #[.slice p n cap, .bool b] 28)).alloc (.cells #[.slice q m cap', .bool b'] 28)) := ((Kept.start w).box _ _ _ _ rfl).box _ _ _ _ (by simp)
  go_enter Try.func25, Try.ntmps25
  go_wp2_with fail
  refine (Sub_r (Vx.out.grown (Kept.all _ _ S0)) (Vy.out.grown (Kept.all _ _ S0)) hi).mono ?_
  rintro e w1 ⟨v, rfl, h, bd, hg⟩
  have Hv := Lib.hid (h.decI bd)
  have G := Lib.hid (grown_trans (Kept.all _ _ S0) hg)
  clear S0 hg h bd
  go_wp2_with fail
  refine (Sign_r Hv.out).mono ?_
  rintro e w2 ⟨rfl, hg⟩
  have G2 := Lib.hid (grown_trans G.out hg)
  clear hg
  go_wp2_with fail
  go_ret
  exact ⟨rfl, G2.out⟩

end Go.Proofs.Ytmmmpdpgkjcohaa
