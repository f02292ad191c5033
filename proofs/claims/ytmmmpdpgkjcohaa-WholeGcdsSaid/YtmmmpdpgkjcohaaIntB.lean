/- Package whole: below, Cmp, difference, Add, Sub, Mul. -/
import Derived.Test.YtmmmpdpgkjcohaaIntA
namespace Go.Proofs.Ytmmmpdpgkjcohaa
open Go.RowKit

/-- -1, 0, 1. -/
def cmpI (z y : Int) : Int := if z < y then -1 else if z = y then 0 else 1
theorem cmpI_pos (X Y : Nat) : cmpI (X : Int) (Y : Int) = cmpN X Y := by
  unfold cmpI cmpN
  split <;> split <;> (try split) <;> (try split) <;> omega
theorem cmpI_negs (X Y : Nat) : cmpI (-(X : Int)) (-(Y : Int)) = cmpN Y X := by
  unfold cmpI cmpN
  split <;> split <;> (try split) <;> (try split) <;> omega
theorem sg_nonneg {b : Bool} {X : Nat} (h : ¬ sg b X < 0) : sg b X = X := by
  cases b
  · rfl
  · simp [sg] at h ⊢; omega
theorem sg_below {b : Bool} {X : Nat} (h : sg b X < 0) : sg b X = -(X : Int) := by
  cases b
  · simp [sg] at h
    omega
  · rfl

set_option maxHeartbeats 1000000 in
theorem Below_i {v : Value} {z : Int} {k : Nat} {w : World} (r : Bool) (hx : IntV w v z k) (hk : k ≤ 1000000) (hr : decide (z < 0) = r) :
    Calls Try.prog 59 #[v] w fun e w' => e = .returned (.bool r) ∧ w.grownBy w' none := by
  subst hr
  obtain ⟨b, s, X, rfl, hx, rfl⟩ := hx
  obtain ⟨p, n, cap, rfl⟩ := hx.slice
  rw [sg_neg]
  have Hx := Lib.hid hx
  clear hx
  cases b
  · go_enter Try.func59, Try.ntmps59
    go_wp2_with fail
    go_ret
    exact ⟨rfl, grown_alloc _ _ _⟩
  · have Hd := Lib.hid (dig_some 2 X (by omega))
    go_enter Try.func59, Try.ntmps59
    go_wp2_with fail
    refine (Bits_n (Hx.out.grown (grown_alloc _ _ _)) hk).mono ?_
    rintro e w' ⟨rfl, rfl⟩
    generalize (dig 2 X).length = l at *
    go_wp2_with fail
    go_ret
    refine ⟨?_, grown_alloc _ _ _⟩
    have := Hd.out
    simp_all

set_option maxHeartbeats 2000000 in
theorem Cmp_i {v u : Value} {z y : Int} {i j : Nat} {w : World} (r : Int) (hx : IntV w v z i) (hy : IntV w u y j) (hi : i + j ≤ 1000000) (hr : cmpI z y = r) :
    Calls Try.prog 24 #[v, u] w fun e w' => e = .returned (.int .i64 r) ∧ w.grownBy w' none := by
  have Vx := Lib.hid hx
  have Vy := Lib.hid hy
  have Hr := Lib.hid hr
  obtain ⟨b, s, X, rfl, hx, rfl⟩ := hx
  obtain ⟨p, n, cap, rfl⟩ := hx.slice
  obtain ⟨b', s', Y, rfl, hy, rfl⟩ := hy
  obtain ⟨q, m, cap', rfl⟩ := hy.slice
  have Hx := Lib.hid hx
  have Hy := Lib.hid hy
  have S0 : Kept w [(w.heap.size + 1, 0, .bool b'), (w.heap.size + 1, 1, .slice q m cap'), (w.heap.size, 0, .bool b), (w.heap.size, 1, .slice p n cap)] [] ((w.alloc (.cells #[.bool b, .slice p n cap] 24)).alloc (.cells #[.bool b', .slice q m cap'] 24)) := ((Kept.start w).box _ _ _ _ rfl).box _ _ _ _ (by simp)
  clear hx hy hr
  by_cases hz : sg b X < 0
  · replace hz := Lib.hid hz
    by_cases hw : sg b' Y < 0
    · replace hw := Lib.hid hw
      go_enter Try.func24, Try.ntmps24
      go_wp2_with fail
      refine (Below_i true (Vx.out.grown (Kept.all _ _ S0)) (by omega) (decide_eq_true hz.out)).mono ?_
      rintro e w' ⟨rfl, hg⟩
      replace S0 := Kept.grown _ _ S0 hg
      clear hg
      obtain ⟨c0, c1, c2, c3, G⟩ := id S0
      go_wp2_with fail
      clear c0 c1 c2 c3 G
      refine (Below_i true (Vy.out.grown (Kept.all _ _ S0)) (by omega) (decide_eq_true hw.out)).mono ?_
      rintro e w' ⟨rfl, hg⟩
      replace S0 := Kept.grown _ _ S0 hg
      clear hg
      obtain ⟨c0, c1, c2, c3, G⟩ := id S0
      go_wp2_with fail
      clear c0 c1 c2 c3 G
      refine (Cmp_n r (Hy.out.grown (Kept.all _ _ S0)) (Hx.out.grown (Kept.all _ _ S0)) ?_).mono ?_
      · rw [← Hr.out]; exact (by rw [sg_below hz.out, sg_below hw.out, cmpI_negs])
      rintro e w' ⟨rfl, hg⟩
      replace S0 := Kept.grown _ _ S0 hg
      go_wp2_with fail
      go_ret
      exact ⟨rfl, Kept.all _ _ S0⟩
    · replace hw := Lib.hid hw
      obtain rfl : r = -1 := by
        have h1 := hz.out
        have h2 := hw.out
        rw [← Hr.out, cmpI, if_pos (by omega)]
      go_enter Try.func24, Try.ntmps24
      go_wp2_with fail
      refine (Below_i true (Vx.out.grown (Kept.all _ _ S0)) (by omega) (decide_eq_true hz.out)).mono ?_
      rintro e w' ⟨rfl, hg⟩
      replace S0 := Kept.grown _ _ S0 hg
      clear hg
      obtain ⟨c0, c1, c2, c3, G⟩ := id S0
      go_wp2_with fail
      clear c0 c1 c2 c3 G
      refine (Below_i false (Vy.out.grown (Kept.all _ _ S0)) (by omega) (decide_eq_false (Int.not_lt.2 hw.out))).mono ?_
      rintro e w' ⟨rfl, hg⟩
      replace S0 := Kept.grown _ _ S0 hg
      clear hg
      obtain ⟨c0, c1, c2, c3, G⟩ := id S0
      go_wp2_with fail
      clear c0 c1 c2 c3 G
      refine (Below_i true (Vx.out.grown (Kept.all _ _ S0)) (by omega) (decide_eq_true hz.out)).mono ?_
      rintro e w' ⟨rfl, hg⟩
      replace S0 := Kept.grown _ _ S0 hg
      clear hg
      obtain ⟨c0, c1, c2, c3, G⟩ := id S0
      go_wp2_with fail
      clear c0 c1 c2 c3 G
      go_ret
      exact ⟨rfl, Kept.all _ _ S0⟩
  · replace hz := Lib.hid hz
    by_cases hw : sg b' Y < 0
    · replace hw := Lib.hid hw
      obtain rfl : r = 1 := by
        have h1 := hz.out
        have h2 := hw.out
        rw [← Hr.out, cmpI, if_neg (by omega), if_neg (by omega)]
      go_enter Try.func24, Try.ntmps24
      go_wp2_with fail
      refine (Below_i false (Vx.out.grown (Kept.all _ _ S0)) (by omega) (decide_eq_false (Int.not_lt.2 hz.out))).mono ?_
      rintro e w' ⟨rfl, hg⟩
      replace S0 := Kept.grown _ _ S0 hg
      clear hg
      obtain ⟨c0, c1, c2, c3, G⟩ := id S0
      go_wp2_with fail
      clear c0 c1 c2 c3 G
      refine (Below_i false (Vx.out.grown (Kept.all _ _ S0)) (by omega) (decide_eq_false (Int.not_lt.2 hz.out))).mono ?_
      rintro e w' ⟨rfl, hg⟩
      replace S0 := Kept.grown _ _ S0 hg
      clear hg
      obtain ⟨c0, c1, c2, c3, G⟩ := id S0
      go_wp2_with fail
      clear c0 c1 c2 c3 G
      refine (Below_i true (Vy.out.grown (Kept.all _ _ S0)) (by omega) (decide_eq_true hw.out)).mono ?_
      rintro e w' ⟨rfl, hg⟩
      replace S0 := Kept.grown _ _ S0 hg
      clear hg
      obtain ⟨c0, c1, c2, c3, G⟩ := id S0
      go_wp2_with fail
      clear c0 c1 c2 c3 G
      go_ret
      exact ⟨rfl, Kept.all _ _ S0⟩
    · replace hw := Lib.hid hw
      go_enter Try.func24, Try.ntmps24
      go_wp2_with fail
      refine (Below_i false (Vx.out.grown (Kept.all _ _ S0)) (by omega) (decide_eq_false (Int.not_lt.2 hz.out))).mono ?_
      rintro e w' ⟨rfl, hg⟩
      replace S0 := Kept.grown _ _ S0 hg
      clear hg
      obtain ⟨c0, c1, c2, c3, G⟩ := id S0
      go_wp2_with fail
      clear c0 c1 c2 c3 G
      refine (Below_i false (Vx.out.grown (Kept.all _ _ S0)) (by omega) (decide_eq_false (Int.not_lt.2 hz.out))).mono ?_
      rintro e w' ⟨rfl, hg⟩
      replace S0 := Kept.grown _ _ S0 hg
      clear hg
      obtain ⟨c0, c1, c2, c3, G⟩ := id S0
      go_wp2_with fail
      clear c0 c1 c2 c3 G
      refine (Below_i false (Vy.out.grown (Kept.all _ _ S0)) (by omega) (decide_eq_false (Int.not_lt.2 hw.out))).mono ?_
      rintro e w' ⟨rfl, hg⟩
      replace S0 := Kept.grown _ _ S0 hg
      clear hg
      obtain ⟨c0, c1, c2, c3, G⟩ := id S0
      go_wp2_with fail
      clear c0 c1 c2 c3 G
      refine (Cmp_n r (Hx.out.grown (Kept.all _ _ S0)) (Hy.out.grown (Kept.all _ _ S0)) ?_).mono ?_
      · rw [← Hr.out]; exact (by rw [sg_nonneg (Int.not_lt.2 hz.out), sg_nonneg (Int.not_lt.2 hw.out), cmpI_pos])
      rintro e w' ⟨rfl, hg⟩
      replace S0 := Kept.grown _ _ S0 hg
      go_wp2_with fail
      go_ret
      exact ⟨rfl, Kept.all _ _ S0⟩

theorem end_made {fn : Func} {a : Act} {W w : World} {r g k B : Nat} {z : Int} {u v x y : Value} (hres : fn.results = #[ResultVar.cell r 24]) (hd : a.defers = []) (hr : a.tmps[r]? = some (.pointer (some ⟨g, 0, none⟩)))
    (h0 : (set2 w g u v).cell? ⟨g, 0, none⟩ = some x) (h1 : (set2 w g u v).cell? ⟨g, 1, none⟩ = some y) (hG : W.grownBy (set2 w g u v) none)
    (ho : OwnI w B (.agg #[u, v]) z) (hB : W.heap.size ≤ B) (hg : g < B) (hb : Bd z.natAbs k) : bodyPost Try.prog fn (MadeI W z k) .ret a (set2 w g u v) := by
  refine post_box24 hres hd hr (set2_read0 h0) (set2_read1 h1) ⟨_, rfl, ?_, hb, hG⟩
  obtain ⟨p, cap, h2, h3⟩ := ho
  refine ⟨p, cap, h2, ?_⟩
  simp only [Value.agg.injEq, Array.mk.injEq, List.cons.injEq, and_true] at h2
  obtain ⟨-, rfl⟩ := h2
  exact ((h3.mono hB).grown (set2_grown _ _ _ _) (own_ne h3 hg))

set_option maxHeartbeats 1000000 in
theorem Difference_n {v u : Value} {X Y i j : Nat} {w : World} (hx : Num w v X i) (hy : Num w u Y j) (hi : i + j ≤ 1000000) :
    Calls Try.prog 51 #[v, u] w (MadeI w ((X : Int) - Y) (i + j)) := by
  have Hx := Lib.hid hx
  have Hy := Lib.hid hy
  have Bx := Lib.hid (show Bd X (i + j) from hx.bd.more (by omega))
  have By := Lib.hid (show Bd Y (i + j) from hy.bd.more (by omega))
  have S0 : Kept w [] [w.heap.size] (w.alloc (.cells #[.bool false, .slice none 0 0] 24)) := (Kept.start w).res _ _ _ _ _ rfl
  clear hx hy
  by_cases hle : Y ≤ X
  · replace hle := Lib.hid hle
    go_enter Try.func51, Try.ntmps51
    go_wp2_with fail
    have S1 := S0
    refine (Sub_n (Hx.out.grown (Kept.all _ _ S0)) (Hy.out.grown (Kept.all _ _ S0)) (by omega) hle.out).mono ?_
    rintro e w' ⟨v, rfl, h, -, hg⟩
    obtain ⟨pv, nv, rfl⟩ := h.slice
    replace S0 := Kept.grown _ _ S0 hg
    clear hg
    go_wp2_with fail
    refine (signed_any _ _ _ _ _).mono ?_
    rintro e w' ⟨rfl, hg⟩
    replace S0 := Kept.grown _ _ S0 hg
    replace h := h.grown hg (.inl rfl)
    clear hg
    obtain ⟨r0, r1, r2, r3, G⟩ := id S0
    go_wp2_with fail
    exact end_signed (b := false) Try.results51 rfl rfl (set2_fst r0) (set2_snd r1) (Kept.all _ _ (Kept.set _ _ (by simp <;> omega) (by first | omega | (simp <;> omega)) S0)) h S1.size (S1.lt (by simp)) (by have := hle.out; simp [sg]; omega) (Bx.out.le (Nat.sub_le _ _))
  · replace hle := Lib.hid (Nat.lt_of_not_le hle)
    go_enter Try.func51, Try.ntmps51
    go_wp2_with fail
    refine (Sub_no (Hx.out.grown (Kept.all _ _ S0)) (Hy.out.grown (Kept.all _ _ S0)) (by omega) hle.out).mono ?_
    rintro e w' ⟨rfl, hg⟩
    replace S0 := Kept.grown _ _ S0 hg
    clear hg
    go_wp2_with fail
    have S1 := S0
    refine (Sub_n (Hy.out.grown (Kept.all _ _ S0)) (Hx.out.grown (Kept.all _ _ S0)) (by omega) (Nat.le_of_lt hle.out)).mono ?_
    rintro e w' ⟨v, rfl, h, -, hg⟩
    obtain ⟨pv, nv, rfl⟩ := h.slice
    replace S0 := Kept.grown _ _ S0 hg
    clear hg
    go_wp2_with fail
    refine (signed_any _ _ _ _ _).mono ?_
    rintro e w' ⟨rfl, hg⟩
    replace S0 := Kept.grown _ _ S0 hg
    replace h := h.grown hg (.inl rfl)
    clear hg
    obtain ⟨r0, r1, r2, r3, G⟩ := id S0
    go_wp2_with fail
    exact end_signed (b := true) Try.results51 rfl rfl (set2_fst r0) (set2_snd r1) (Kept.all _ _ (Kept.set _ _ (by simp <;> omega) (by first | omega | (simp <;> omega)) S0)) h S1.size (S1.lt (by simp)) (by have := hle.out; simp [sg]; omega) (By.out.le (Nat.sub_le _ _))

theorem sg_mul (b c : Bool) (X Y : Nat) : sg (b != c) (X * Y) = sg b X * sg c Y := by cases b <;> cases c <;> simp [sg, Int.neg_mul, Int.mul_neg]
set_option maxHeartbeats 2000000 in
theorem Mul_i {v u : Value} {z y : Int} {i j : Nat} {w : World} (hx : IntV w v z i) (hy : IntV w u y j) (hi : i + j ≤ 1000000) :
    Calls Try.prog 19 #[v, u] w (MadeI w (z * y) (i + j)) := by
  obtain ⟨b, s, X, rfl, hx, rfl⟩ := hx
  obtain ⟨p, n, cap, rfl⟩ := hx.slice
  obtain ⟨b', s', Y, rfl, hy, rfl⟩ := hy
  obtain ⟨q, m, cap', rfl⟩ := hy.slice
  have Hx := Lib.hid hx
  have Hy := Lib.hid hy
  have S0 : Kept w [(w.heap.size + 1, 0, .bool b'), (w.heap.size + 1, 1, .slice q m cap'), (w.heap.size, 0, .bool b), (w.heap.size, 1, .slice p n cap)] [w.heap.size + 1 + 1] (((w.alloc (.cells #[.bool b, .slice p n cap] 24)).alloc (.cells #[.bool b', .slice q m cap'] 24)).alloc (.cells #[.bool false, .slice none 0 0] 24)) := (((Kept.start w).box _ _ _ _ rfl).box _ _ _ _ (by simp)).res _ _ _ _ _ (by simp)
  clear hx hy
  go_enter Try.func19, Try.ntmps19
  go_wp2_with fail
  go_region_held3 (fun w' => w'.cell? ⟨w.heap.size + 1, 0, none⟩ = some (.bool b') ∧ w'.cell? ⟨w.heap.size + 1, 1, none⟩ = some (.slice q m cap') ∧ w'.cell? ⟨w.heap.size, 0, none⟩ = some (.bool b) ∧ w'.cell? ⟨w.heap.size, 1, none⟩ = some (.slice p n cap) ∧ w'.cell? ⟨w.heap.size + 1 + 1, 0, none⟩ = some (cellOf w' ⟨w.heap.size + 1 + 1, 0, none⟩) ∧ w'.cell? ⟨w.heap.size + 1 + 1, 1, none⟩ = some (cellOf w' ⟨w.heap.size + 1 + 1, 1, none⟩) ∧ w'.frozen? ⟨w.heap.size + 1 + 1, 0, none⟩ = false ∧ w'.frozen? ⟨w.heap.size + 1 + 1, 1, none⟩ = false ∧ w.grownBy w' none) (first | exact Kept.step (W := w) [(w.heap.size + 1, 0, .bool b'), (w.heap.size + 1, 1, .slice q m cap'), (w.heap.size, 0, .bool b), (w.heap.size, 1, .slice p n cap)] [w.heap.size + 1 + 1] (by assumption) (by assumption) | exact Kept.set (W := w) [(w.heap.size + 1, 0, .bool b'), (w.heap.size + 1, 1, .slice q m cap'), (w.heap.size, 0, .bool b), (w.heap.size, 1, .slice p n cap)] [w.heap.size + 1 + 1] (by simp <;> omega) (by first | omega | (simp <;> omega)) (by assumption) | exact Kept.step [(w.heap.size + 1, 0, .bool b'), (w.heap.size + 1, 1, .slice q m cap'), (w.heap.size, 0, .bool b), (w.heap.size, 1, .slice p n cap)] [w.heap.size + 1 + 1] (grown_drew _ _) S0)
    (first | (go_at_call 57; refine (Mul_n (Hx.out.grown (by go_split_ands; assumption)) (Hy.out.grown (by go_split_ands; assumption)) (by omega)).mono ?_; rintro e w' ⟨v, rfl, h, bd, hg⟩; obtain ⟨pv, nv, rfl⟩ := h.slice) | (go_at_call 49; refine (signed_any _ _ _ _ _).mono ?_; rintro e w' ⟨rfl, hg⟩; replace h := h.grown hg (.inl rfl)))
  rename_i hend
  go_wp2_with fail
  exact end_signed Try.results19 rfl rfl hend.2.2.2.2.1 hend.2.2.2.2.2.1 hend.2.2.2.2.2.2.2.2 h (by first | omega | (simp <;> omega)) (by first | omega | (simp <;> omega)) (sg_mul _ _ _ _) bd

theorem sg_add (b : Bool) (X Y : Nat) : sg b (X + Y) = sg b X + sg b Y := by cases b <;> simp [sg] <;> omega
set_option maxHeartbeats 2000000 in
theorem Add_same {b : Bool} {s s' : Value} {X Y i j : Nat} {w : World} (hx : Num w s X i) (hy : Num w s' Y j) (hi : i + j ≤ 1000000) :
    Calls Try.prog 13 #[.agg #[.bool b, s], .agg #[.bool b, s']] w (MadeI w (sg b X + sg b Y) (i + j + 1)) := by
  obtain ⟨p, n, cap, rfl⟩ := hx.slice
  obtain ⟨q, m, cap', rfl⟩ := hy.slice
  have Hx := Lib.hid hx
  have Hy := Lib.hid hy
  have S0 : Kept w [(w.heap.size + 1, 0, .bool b), (w.heap.size + 1, 1, .slice q m cap'), (w.heap.size, 0, .bool b), (w.heap.size, 1, .slice p n cap)] [w.heap.size + 1 + 1] (((w.alloc (.cells #[.bool b, .slice p n cap] 24)).alloc (.cells #[.bool b, .slice q m cap'] 24)).alloc (.cells #[.bool false, .slice none 0 0] 24)) := (((Kept.start w).box _ _ _ _ rfl).box _ _ _ _ (by simp)).res _ _ _ _ _ (by simp)
  clear hx hy
  go_enter Try.func13, Try.ntmps13
  obtain ⟨c0, c1, c2, c3, r0, r1, r2, r3, G⟩ := id S0
  go_wp2_with fail
  go_region_held3 (fun w' => w'.cell? ⟨w.heap.size + 1, 0, none⟩ = some (.bool b) ∧ w'.cell? ⟨w.heap.size + 1, 1, none⟩ = some (.slice q m cap') ∧ w'.cell? ⟨w.heap.size, 0, none⟩ = some (.bool b) ∧ w'.cell? ⟨w.heap.size, 1, none⟩ = some (.slice p n cap) ∧ w'.cell? ⟨w.heap.size + 1 + 1, 0, none⟩ = some (cellOf w' ⟨w.heap.size + 1 + 1, 0, none⟩) ∧ w'.cell? ⟨w.heap.size + 1 + 1, 1, none⟩ = some (cellOf w' ⟨w.heap.size + 1 + 1, 1, none⟩) ∧ w'.frozen? ⟨w.heap.size + 1 + 1, 0, none⟩ = false ∧ w'.frozen? ⟨w.heap.size + 1 + 1, 1, none⟩ = false ∧ w.grownBy w' none) (first | exact Kept.step (W := w) [(w.heap.size + 1, 0, .bool b), (w.heap.size + 1, 1, .slice q m cap'), (w.heap.size, 0, .bool b), (w.heap.size, 1, .slice p n cap)] [w.heap.size + 1 + 1] (by assumption) (by assumption) | exact Kept.set (W := w) [(w.heap.size + 1, 0, .bool b), (w.heap.size + 1, 1, .slice q m cap'), (w.heap.size, 0, .bool b), (w.heap.size, 1, .slice p n cap)] [w.heap.size + 1 + 1] (by simp <;> omega) (by first | omega | (simp <;> omega)) (by assumption) | exact Kept.step [(w.heap.size + 1, 0, .bool b), (w.heap.size + 1, 1, .slice q m cap'), (w.heap.size, 0, .bool b), (w.heap.size, 1, .slice p n cap)] [w.heap.size + 1 + 1] (grown_drew _ _) S0)
    (first | (go_at_call 50; refine (Add_n (Hx.out.grown (by go_split_ands; assumption)) (Hy.out.grown (by go_split_ands; assumption)) (by omega)).mono ?_; rintro e w' ⟨v, rfl, h, bd, hg⟩; obtain ⟨pv, nv, rfl⟩ := h.slice) | (go_at_call 49; refine (signed_any _ _ _ _ _).mono ?_; rintro e w' ⟨rfl, hg⟩; replace h := h.grown hg (.inl rfl)))
  rename_i hend
  go_wp2_with fail
  exact end_signed Try.results13 rfl rfl hend.2.2.2.2.1 hend.2.2.2.2.2.1 hend.2.2.2.2.2.2.2.2 h (by first | omega | (simp <;> omega)) (by first | omega | (simp <;> omega)) (sg_add _ _ _) bd

set_option maxHeartbeats 2000000 in
theorem Add_tf {s s' : Value} {X Y i j : Nat} {w : World} (hx : Num w s X i) (hy : Num w s' Y j) (hi : i + j ≤ 1000000) :
    Calls Try.prog 13 #[.agg #[.bool true, s], .agg #[.bool false, s']] w (MadeI w ((Y : Int) - X) (j + i)) := by
  obtain ⟨p, n, cap, rfl⟩ := hx.slice
  obtain ⟨q, m, cap', rfl⟩ := hy.slice
  have Hx := Lib.hid hx
  have Hy := Lib.hid hy
  have S0 : Kept w [(w.heap.size + 1, 0, .bool false), (w.heap.size + 1, 1, .slice q m cap'), (w.heap.size, 0, .bool true), (w.heap.size, 1, .slice p n cap)] [w.heap.size + 1 + 1] (((w.alloc (.cells #[.bool true, .slice p n cap] 24)).alloc (.cells #[.bool false, .slice q m cap'] 24)).alloc (.cells #[.bool false, .slice none 0 0] 24)) := (((Kept.start w).box _ _ _ _ rfl).box _ _ _ _ (by simp)).res _ _ _ _ _ (by simp)
  clear hx hy
  go_enter Try.func13, Try.ntmps13
  go_wp2_with fail
  refine (Difference_n (Hy.out.grown (Kept.all _ _ S0)) (Hx.out.grown (Kept.all _ _ S0)) (by omega)).mono ?_
  rintro e w' ⟨v, rfl, ho, bd, hg⟩
  obtain ⟨pv, nv, rfl, ho2⟩ := id ho
  clear ho2
  have S1 := S0
  replace S0 := Kept.grown _ _ S0 hg
  clear hg
  obtain ⟨c0, c1, c2, c3, r0, r1, r2, r3, G⟩ := id S0
  go_wp2_with fail
  exact end_made Try.results13 rfl rfl (set2_fst r0) (set2_snd r1) (Kept.all _ _ (Kept.set _ _ (by simp <;> omega) (by first | omega | (simp <;> omega)) S0)) ho S1.size (S1.lt (by simp)) bd

set_option maxHeartbeats 2000000 in
theorem Add_ft {s s' : Value} {X Y i j : Nat} {w : World} (hx : Num w s X i) (hy : Num w s' Y j) (hi : i + j ≤ 1000000) :
    Calls Try.prog 13 #[.agg #[.bool false, s], .agg #[.bool true, s']] w (MadeI w ((X : Int) - Y) (i + j)) := by
  obtain ⟨p, n, cap, rfl⟩ := hx.slice
  obtain ⟨q, m, cap', rfl⟩ := hy.slice
  have Hx := Lib.hid hx
  have Hy := Lib.hid hy
  have S0 : Kept w [(w.heap.size + 1, 0, .bool true), (w.heap.size + 1, 1, .slice q m cap'), (w.heap.size, 0, .bool false), (w.heap.size, 1, .slice p n cap)] [w.heap.size + 1 + 1] (((w.alloc (.cells #[.bool false, .slice p n cap] 24)).alloc (.cells #[.bool true, .slice q m cap'] 24)).alloc (.cells #[.bool false, .slice none 0 0] 24)) := (((Kept.start w).box _ _ _ _ rfl).box _ _ _ _ (by simp)).res _ _ _ _ _ (by simp)
  clear hx hy
  go_enter Try.func13, Try.ntmps13
  go_wp2_with fail
  refine (Difference_n (Hx.out.grown (Kept.all _ _ S0)) (Hy.out.grown (Kept.all _ _ S0)) (by omega)).mono ?_
  rintro e w' ⟨v, rfl, ho, bd, hg⟩
  obtain ⟨pv, nv, rfl, ho2⟩ := id ho
  clear ho2
  have S1 := S0
  replace S0 := Kept.grown _ _ S0 hg
  clear hg
  obtain ⟨c0, c1, c2, c3, r0, r1, r2, r3, G⟩ := id S0
  go_wp2_with fail
  exact end_made Try.results13 rfl rfl (set2_fst r0) (set2_snd r1) (Kept.all _ _ (Kept.set _ _ (by simp <;> omega) (by first | omega | (simp <;> omega)) S0)) ho S1.size (S1.lt (by simp)) bd

end Go.Proofs.Ytmmmpdpgkjcohaa
