/- Layer 2's examples. -/
import Derived.Test.YtmmmpdpgkjcohaaRefO
import Derived.Test.YtmmmpdpgkjcohaaIntF
namespace Go.Proofs.Ytmmmpdpgkjcohaa
open Go.RowKit

theorem of_m4 (w : World) : Calls Try.prog 29 #[.int .i64 (-4)] w (MadeR w (-4) 2) := Of_r (-4) w (by omega) (by omega)
theorem of_1 (w : World) : Calls Try.prog 29 #[.int .i64 1] w (MadeR w 1 2) := Of_r 1 w (by omega) (by omega)
theorem k2 : 2 ≤ 1000000 := by omega
set_option maxHeartbeats 4000000 in
set_option maxRecDepth 100000 in
theorem wakes_true (w : World) : Calls Try.prog 28 #[] w (Bool_ w true) := by
  obtain ⟨zq, hq⟩ : ∃ z : Int, z = -4 := ⟨_, rfl⟩
  obtain ⟨zr, hr⟩ : ∃ z : Int, z = 1 := ⟨_, rfl⟩
  have Zq := Lib.hid hq
  have Zr := Lib.hid hr
  clear hq hr
  go_enter Try.func28, Try.ntmps28
  go_wp2_with fail
  refine (Of_i (-7) _ (by omega) (by omega)).mono ?_
  rintro e w1 ⟨v1, rfl, h1, b1, g1⟩
  have H1 := Lib.hid (h1.intV b1)
  have G := Lib.hid g1
  clear h1 b1 g1
  go_wp2_with fail
  refine (Of_i 2 _ (by omega) (by omega)).mono ?_
  rintro e w2 ⟨v2, rfl, h2, b2, g2⟩
  have H2 := Lib.hid (h2.intV b2)
  replace H1 := Lib.hid (H1.out.grown g2)
  replace G := Lib.hid (grown_trans G.out g2)
  clear h2 b2 g2
  go_wp2_with fail
  refine (DivMod_i H1.out H2.out (by omega) (by omega)).mono ?_
  rintro e w3 h
  replace h := h.of (q' := zq) (r' := zr) (by rw [Zq.out]; rfl) (by rw [Zr.out]; rfl) (Nat.le_refl _) (Nat.le_refl _)
  obtain ⟨vq, vr, rfl, oq, or, bq, br, g3⟩ := h
  have Nq := Lib.hid oq.nor
  have Nr := Lib.hid or.nor
  replace G := Lib.hid (grown_trans G.out g3)
  obtain ⟨pq, cq, rfl, -⟩ := oq
  obtain ⟨pr, cr, rfl, -⟩ := or
  have S0 : Kept w3 [(w3.heap.size + 1, 0, .bool (decide (zr < 0))), (w3.heap.size + 1, 1, .slice pr (dig 4294967296 (zr).natAbs).length cr), (w3.heap.size, 0, .bool (decide (zq < 0))), (w3.heap.size, 1, .slice pq (dig 4294967296 (zq).natAbs).length cq)] [] ((w3.alloc (.cells #[.bool (decide (zq < 0)), .slice pq (dig 4294967296 (zq).natAbs).length cq] 24)).alloc (.cells #[.bool (decide (zr < 0)), .slice pr (dig 4294967296 (zr).natAbs).length cr] 24)) := ((Kept.start w3).box _ _ _ _ rfl).box _ _ _ _ (by simp)
  clear H1 H2 bq br g3
  go_wp2_with fail
  go_region_held3 (fun w' => w'.cell? ⟨w3.heap.size + 1, 0, none⟩ = some (.bool (decide (zr < 0))) ∧ w'.cell? ⟨w3.heap.size + 1, 1, none⟩ = some (.slice pr (dig 4294967296 (zr).natAbs).length cr) ∧ w'.cell? ⟨w3.heap.size, 0, none⟩ = some (.bool (decide (zq < 0))) ∧ w'.cell? ⟨w3.heap.size, 1, none⟩ = some (.slice pq (dig 4294967296 (zq).natAbs).length cq) ∧ w3.grownBy w' none) (first | exact Kept.step (W := w3) [(w3.heap.size + 1, 0, .bool (decide (zr < 0))), (w3.heap.size + 1, 1, .slice pr (dig 4294967296 (zr).natAbs).length cr), (w3.heap.size, 0, .bool (decide (zq < 0))), (w3.heap.size, 1, .slice pq (dig 4294967296 (zq).natAbs).length cq)] [] (by assumption) (by assumption) | exact Kept.set (W := w3) [(w3.heap.size + 1, 0, .bool (decide (zr < 0))), (w3.heap.size + 1, 1, .slice pr (dig 4294967296 (zr).natAbs).length cr), (w3.heap.size, 0, .bool (decide (zq < 0))), (w3.heap.size, 1, .slice pq (dig 4294967296 (zq).natAbs).length cq)] [] (by simp <;> omega) (by first | omega | (simp <;> omega)) (by assumption) | exact Kept.step [(w3.heap.size + 1, 0, .bool (decide (zr < 0))), (w3.heap.size + 1, 1, .slice pr (dig 4294967296 (zr).natAbs).length cr), (w3.heap.size, 0, .bool (decide (zq < 0))), (w3.heap.size, 1, .slice pq (dig 4294967296 (zq).natAbs).length cq)] [] (grown_drew _ _) S0)
    (first | (go_at_call 29; (with_reducible refine (of_m4 _).mono ?_); rintro e w' ⟨v, rfl, hd, bd, hg⟩; have dq := hd.decI bd; rw [← Zq.out] at dq; clear hd bd) | (go_at_call 14; (with_reducible refine (Is_l dq k2 ?nq).mono ?_); (case nq => exact Nq.out.grown (by go_split_ands; assumption)); rintro e w' ⟨rfl, hg⟩) | (go_at_call 29; (with_reducible refine (of_1 _).mono ?_); rintro e w' ⟨v, rfl, hd, bd, hg⟩; have dr := hd.decI bd; rw [← Zr.out] at dr; clear hd bd) | (go_at_call 14; (with_reducible refine (Is_l dr k2 ?nq).mono ?_); (case nq => exact Nr.out.grown (by go_split_ands; assumption)); rintro e w' ⟨rfl, hg⟩))
  rename_i hend
  go_wp2_with fail
  go_ret
  exact ⟨rfl, grown_trans G.out hend.2.2.2.2⟩

end Go.Proofs.Ytmmmpdpgkjcohaa
