/- Package whole, one contract a function: signed, Norm, Neg, Abs, below, Cmp. -/
import Derived.Test.YtmmmpdpgkjcohaaBoxes
namespace Go.Proofs.Ytmmmpdpgkjcohaa
open Go.RowKit

theorem signed_any (b : Bool) (p : Option Addr) (n cap : Nat) (w : World) :
    Calls Try.prog 49 #[.bool b, .slice p n cap] w fun e w' => e = .returned (.agg #[.bool (b && decide (0 < n)), .slice p n cap]) ∧ w.grownBy w' none := by
  go_enter Try.func49, Try.ntmps49
  cases b
  all_goals
    go_wp2_with fail
    simp [bodyPost, results, Try.results49, go_sem]
    exact grown_alloc _ _ _

set_option maxHeartbeats 1000000 in
theorem Norm_i {v : Value} {z : Int} {k : Nat} {w : World} (hx : IntV w v z k) (hk : k ≤ 1000000) :
    Calls Try.prog 23 #[v] w (MadeI w (z) k) := by
  obtain ⟨b, s, X, rfl, hx, rfl⟩ := hx
  obtain ⟨p, n, cap, rfl⟩ := hx.slice
  have Hx := Lib.hid hx
  clear hx
  have S0 : Kept w [(w.heap.size, 0, .bool b), (w.heap.size, 1, .slice p n cap)] [w.heap.size + 1] ((w.alloc (.cells #[.bool b, .slice p n cap] 24)).alloc (.cells #[.bool false, .slice none 0 0] 24)) := ((Kept.start w).box _ _ _ _ rfl).res _ _ _ _ _ (by simp)
  go_enter Try.func23, Try.ntmps23
  go_wp2_with fail
  go_region_held3 (fun w' => w'.cell? ⟨w.heap.size, 0, none⟩ = some (.bool b) ∧ w'.cell? ⟨w.heap.size, 1, none⟩ = some (.slice p n cap) ∧ w'.cell? ⟨w.heap.size + 1, 0, none⟩ = some (cellOf w' ⟨w.heap.size + 1, 0, none⟩) ∧ w'.cell? ⟨w.heap.size + 1, 1, none⟩ = some (cellOf w' ⟨w.heap.size + 1, 1, none⟩) ∧ w'.frozen? ⟨w.heap.size + 1, 0, none⟩ = false ∧ w'.frozen? ⟨w.heap.size + 1, 1, none⟩ = false ∧ w.grownBy w' none) (first | exact Kept.step (W := w) [(w.heap.size, 0, .bool b), (w.heap.size, 1, .slice p n cap)] [w.heap.size + 1] (by assumption) (by assumption) | exact Kept.set (W := w) [(w.heap.size, 0, .bool b), (w.heap.size, 1, .slice p n cap)] [w.heap.size + 1] (by simp <;> omega) (by first | omega | (simp <;> omega)) (by assumption) | exact Kept.step [(w.heap.size, 0, .bool b), (w.heap.size, 1, .slice p n cap)] [w.heap.size + 1] (grown_drew _ _) S0)
    (first | (go_at_call 58; refine (Norm_n (Hx.out.grown (by go_split_ands; assumption)) hk).mono ?_; rintro e w' ⟨v, rfl, h, bd, hg⟩; obtain ⟨pv, nv, rfl⟩ := h.slice) | (go_at_call 49; refine (signed_any _ _ _ _ _).mono ?_; rintro e w' ⟨rfl, hg⟩; replace h := h.grown hg (.inl rfl)))
  rename_i hend
  go_wp2_with fail
  exact end_signed Try.results23 rfl rfl hend.2.2.1 hend.2.2.2.1 hend.2.2.2.2.2.2 h (by first | omega | (simp <;> omega)) (by first | omega | (simp <;> omega)) (rfl) bd

set_option maxHeartbeats 1000000 in
theorem Neg_i {v : Value} {z : Int} {k : Nat} {w : World} (hx : IntV w v z k) (hk : k ≤ 1000000) :
    Calls Try.prog 21 #[v] w (MadeI w (-z) k) := by
  obtain ⟨b, s, X, rfl, hx, rfl⟩ := hx
  obtain ⟨p, n, cap, rfl⟩ := hx.slice
  have Hx := Lib.hid hx
  clear hx
  have S0 : Kept w [(w.heap.size, 0, .bool b), (w.heap.size, 1, .slice p n cap)] [w.heap.size + 1] ((w.alloc (.cells #[.bool b, .slice p n cap] 24)).alloc (.cells #[.bool false, .slice none 0 0] 24)) := ((Kept.start w).box _ _ _ _ rfl).res _ _ _ _ _ (by simp)
  go_enter Try.func21, Try.ntmps21
  go_wp2_with fail
  go_region_held3 (fun w' => w'.cell? ⟨w.heap.size, 0, none⟩ = some (.bool b) ∧ w'.cell? ⟨w.heap.size, 1, none⟩ = some (.slice p n cap) ∧ w'.cell? ⟨w.heap.size + 1, 0, none⟩ = some (cellOf w' ⟨w.heap.size + 1, 0, none⟩) ∧ w'.cell? ⟨w.heap.size + 1, 1, none⟩ = some (cellOf w' ⟨w.heap.size + 1, 1, none⟩) ∧ w'.frozen? ⟨w.heap.size + 1, 0, none⟩ = false ∧ w'.frozen? ⟨w.heap.size + 1, 1, none⟩ = false ∧ w.grownBy w' none) (first | exact Kept.step (W := w) [(w.heap.size, 0, .bool b), (w.heap.size, 1, .slice p n cap)] [w.heap.size + 1] (by assumption) (by assumption) | exact Kept.set (W := w) [(w.heap.size, 0, .bool b), (w.heap.size, 1, .slice p n cap)] [w.heap.size + 1] (by simp <;> omega) (by first | omega | (simp <;> omega)) (by assumption) | exact Kept.step [(w.heap.size, 0, .bool b), (w.heap.size, 1, .slice p n cap)] [w.heap.size + 1] (grown_drew _ _) S0)
    (first | (go_at_call 58; refine (Norm_n (Hx.out.grown (by go_split_ands; assumption)) hk).mono ?_; rintro e w' ⟨v, rfl, h, bd, hg⟩; obtain ⟨pv, nv, rfl⟩ := h.slice) | (go_at_call 49; refine (signed_any _ _ _ _ _).mono ?_; rintro e w' ⟨rfl, hg⟩; replace h := h.grown hg (.inl rfl)))
  rename_i hend
  go_wp2_with fail
  exact end_signed Try.results21 rfl rfl hend.2.2.1 hend.2.2.2.1 hend.2.2.2.2.2.2 h (by first | omega | (simp <;> omega)) (by first | omega | (simp <;> omega)) (sg_not _ _) bd

set_option maxHeartbeats 1000000 in
theorem Abs_i {v : Value} {z : Int} {k : Nat} {w : World} (hx : IntV w v z k) (hk : k ≤ 1000000) :
    Calls Try.prog 22 #[v] w (MadeI w ((z.natAbs : Int)) k) := by
  obtain ⟨b, s, X, rfl, hx, rfl⟩ := hx
  obtain ⟨p, n, cap, rfl⟩ := hx.slice
  have Hx := Lib.hid hx
  clear hx
  have S0 : Kept w [(w.heap.size, 0, .bool b), (w.heap.size, 1, .slice p n cap)] [w.heap.size + 1] ((w.alloc (.cells #[.bool b, .slice p n cap] 24)).alloc (.cells #[.bool false, .slice none 0 0] 24)) := ((Kept.start w).box _ _ _ _ rfl).res _ _ _ _ _ (by simp)
  go_enter Try.func22, Try.ntmps22
  go_wp2_with fail
  refine (Norm_n (Hx.out.grown (Kept.all _ _ S0)) hk).mono ?_
  rintro e w' ⟨v, rfl, h, bd, hg⟩
  obtain ⟨pv, nv, rfl⟩ := h.slice
  replace S0 := Kept.grown _ _ S0 hg
  clear hg
  go_wp2_with fail
  refine (signed_any _ _ _ _ _).mono ?_
  rintro e w2 ⟨rfl, hg⟩
  replace S0 := Kept.grown _ _ S0 hg
  replace h := h.grown hg (.inl rfl)
  obtain ⟨c0, c1, r0, r1, f0, f1, G⟩ := id S0
  go_wp2_with fail
  exact end_signed (b := false) Try.results22 rfl rfl (set2_fst r0) (set2_snd r1) (Kept.all _ _ (Kept.set _ _ (by simp) (by first | omega | (simp <;> omega)) S0)) h (by first | omega | (simp <;> omega)) (by first | omega | (simp <;> omega)) (by rw [sg_abs]; rfl) bd

end Go.Proofs.Ytmmmpdpgkjcohaa
