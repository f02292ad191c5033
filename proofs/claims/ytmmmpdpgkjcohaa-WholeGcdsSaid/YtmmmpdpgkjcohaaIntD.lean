/- Package whole: DivMod, Exact. -/
import Derived.Test.YtmmmpdpgkjcohaaIntC
namespace Go.Proofs.Ytmmmpdpgkjcohaa
open Go.RowKit

theorem div_of {z y q r : Int} (hy : y ≠ 0) (he : z = y * q + r) (h0 : 0 ≤ r) (h1 : r < y.natAbs) : z / y = q ∧ z % y = r := by
  rcases Int.lt_or_gt_of_ne hy with h | h
  · have := (Int.ediv_emod_unique (a := z) (b := -y) (r := r) (q := -q) (by omega)).2 ⟨by rw [he, Int.neg_mul_neg]; omega, h0, by omega⟩
    rw [Int.ediv_neg, Int.emod_neg] at this
    omega
  · exact (Int.ediv_emod_unique (by omega)).2 ⟨by rw [he]; omega, h0, by omega⟩
theorem div_plain {b b' : Bool} {X Y : Nat} (hY : Y ≠ 0) (h : b = false ∨ X % Y = 0) : sg b X / sg b' Y = sg (b != b') (X / Y) ∧ sg b X % sg b' Y = ((X % Y : Nat) : Int) := by
  have e := Nat.div_add_mod X Y
  have l := Nat.mod_lt X (Nat.pos_of_ne_zero hY)
  refine div_of (by cases b' <;> simp [sg] <;> omega) ?_ (by omega) (by rw [sg_abs]; omega)
  have e2 : (X : Int) = (Y : Int) * ((X / Y : Nat) : Int) + ((X % Y : Nat) : Int) := by rw [← Int.natCast_mul]; omega
  rcases h with rfl | h
  · generalize ((X % Y : Nat) : Int) = r at *
    generalize X / Y = q at *
    cases b' <;> simp only [sg] <;> grind
  · have h' : ((X % Y : Nat) : Int) = 0 := by omega
    rw [h'] at e2 ⊢
    generalize X / Y = q at *
    cases b <;> cases b' <;> simp only [sg] <;> grind
theorem div_up {b' : Bool} {X Y : Nat} (hY : Y ≠ 0) (h : X % Y ≠ 0) : sg true X / sg b' Y = sg (true != b') (X / Y + 1) ∧ sg true X % sg b' Y = ((Y - X % Y : Nat) : Int) := by
  have e := Nat.div_add_mod X Y
  have l := Nat.mod_lt X (Nat.pos_of_ne_zero hY)
  refine div_of (by cases b' <;> simp [sg] <;> omega) ?_ (by omega) (by rw [sg_abs]; omega)
  have e2 : (X : Int) = (Y : Int) * ((X / Y : Nat) : Int) + ((X % Y : Nat) : Int) := by rw [← Int.natCast_mul]; omega
  have e3 : ((Y - X % Y : Nat) : Int) = (Y : Int) - ((X % Y : Nat) : Int) := by omega
  have e4 : ((X / Y + 1 : Nat) : Int) = ((X / Y : Nat) : Int) + 1 := by omega
  rw [e3]
  generalize ((X % Y : Nat) : Int) = r at *
  generalize X / Y = q at *
  cases b' <;> simp only [sg] <;> simp only [e4] <;> grind

/-- No number. -/
def ZI : Value := .agg #[.bool false, .slice none 0 0]
/-- What a division hands back. -/
def DivI (w : World) (q r : Int) (i j : Nat) (e : Ending) (w' : World) : Prop :=
  ∃ v u, e = .returned (.tuple #[v, u, .int .i64 0]) ∧ OwnI w' w.heap.size v q ∧ OwnI w' w.heap.size u r ∧ Bd q.natAbs i ∧ Bd r.natAbs j ∧ w.grownBy w' none
theorem post_div {fn : Func} {R : Ending → World → Prop} {a : Act} {w : World} {r g r' g' s : Nat} {x y x' y' v : Value} (hres : fn.results = #[ResultVar.cell r 24, ResultVar.cell r' 24, ResultVar.tmp s]) (hd : a.defers = [])
    (hr : a.tmps[r]? = some (.pointer (some ⟨g, 0, none⟩))) (hr' : a.tmps[r']? = some (.pointer (some ⟨g', 0, none⟩))) (hs : a.tmps[s]? = some v)
    (c0 : w.cell? ⟨g, 0, none⟩ = some x) (c1 : w.cell? ⟨g, 1, none⟩ = some y) (d0 : w.cell? ⟨g', 0, none⟩ = some x') (d1 : w.cell? ⟨g', 1, none⟩ = some y') (h : R (.returned (.tuple #[.agg #[x, y], .agg #[x', y'], v])) w) : bodyPost Try.prog fn R .ret a w := by
  simp [bodyPost, results, hres, hr, hr', hs, c0, c1, d0, d1, go_sem, h, hd]
theorem post_exact {fn : Func} {R : Ending → World → Prop} {a : Act} {w : World} {r g s : Nat} {x y v : Value} (hres : fn.results = #[ResultVar.cell r 24, ResultVar.tmp s]) (hd : a.defers = [])
    (hr : a.tmps[r]? = some (.pointer (some ⟨g, 0, none⟩))) (hs : a.tmps[s]? = some v)
    (c0 : w.cell? ⟨g, 0, none⟩ = some x) (c1 : w.cell? ⟨g, 1, none⟩ = some y) (h : R (.returned (.tuple #[.agg #[x, y], v])) w) : bodyPost Try.prog fn R .ret a w := by
  simp [bodyPost, results, hres, hr, hs, c0, c1, go_sem, h, hd]
/-- Two structs were stored, the second one into block g'. -/
theorem two_stored {W w : World} {g g' B B' cap cap' X Y i j n n' : Nat} {b b' : Bool} {p p' : Option Addr} (hn : (dig 4294967296 X).length = n) (hn' : (dig 4294967296 Y).length = n')
    (hx : Own w 65 .u32 B (.slice p n cap) (dig 4294967296 X)) (hy : Own w 65 .u32 B' (.slice p' n' cap') (dig 4294967296 Y))
    (hB : W.heap.size ≤ B) (hB' : W.heap.size ≤ B') (h1 : g < B) (h2 : g' < B) (h3 : g < B') (h4 : g' < B') {q r : Int} (hq : q = sg b X) (hr : r = sg b' Y) (bx : Bd X i) (yb : Bd Y j)
    (hG : W.grownBy (set2 (set2 w g (.bool (b && decide (0 < n))) (.slice p n cap)) g' (.bool (b' && decide (0 < n'))) (.slice p' n' cap')) none) :
    DivI W q r i j (.returned (.tuple #[.agg #[.bool (b && decide (0 < n)), .slice p n cap], .agg #[.bool (b' && decide (0 < n')), .slice p' n' cap'], .int .i64 0]))
      (set2 (set2 w g (.bool (b && decide (0 < n))) (.slice p n cap)) g' (.bool (b' && decide (0 < n'))) (.slice p' n' cap')) := by
  subst hq hr hn hn'
  refine ⟨_, _, rfl, ⟨p, cap, ?_, ?_⟩, ⟨p', cap', ?_, ?_⟩, by rw [sg_abs]; exact bx, by rw [sg_abs]; exact yb, hG⟩
  · rw [sg_neg, sg_abs, dig_some _ _ (by omega)]
  · rw [sg_abs]
    exact (((hx.mono hB).grown (set2_grown _ _ _ _) (own_ne hx h1)).grown (set2_grown _ _ _ _) (own_ne hx h2))
  · rw [sg_neg, sg_abs, dig_some _ _ (by omega)]
  · rw [sg_abs]
    exact (((hy.mono hB').grown (set2_grown _ _ _ _) (own_ne hy h3)).grown (set2_grown _ _ _ _) (own_ne hy h4))

set_option maxHeartbeats 2000000 in
theorem DivMod_no_i {b b' : Bool} {s s' : Value} {X Y i j : Nat} {w : World} (hx : Num w s X i) (hy : Num w s' Y j) (hi : i + j ≤ 900000) (hY : Y = 0) :
    Calls Try.prog 42 #[.agg #[.bool b, s], .agg #[.bool b', s']] w fun e w' => e = .returned (.tuple #[ZI, ZI, .int .i64 2]) ∧ w.grownBy w' none := by
  obtain ⟨p, n, cap, rfl⟩ := hx.slice
  obtain ⟨q, m, cap', rfl⟩ := hy.slice
  have Hx := Lib.hid hx
  have Hy := Lib.hid hy
  have S0 : Kept w [(w.heap.size + 1, 0, .bool b'), (w.heap.size + 1, 1, .slice q m cap'), (w.heap.size, 0, .bool b), (w.heap.size, 1, .slice p n cap)] [w.heap.size + 1 + 1 + 1, w.heap.size + 1 + 1] ((((w.alloc (.cells #[.bool b, .slice p n cap] 24)).alloc (.cells #[.bool b', .slice q m cap'] 24)).alloc (.cells #[.bool false, .slice none 0 0] 24)).alloc (.cells #[.bool false, .slice none 0 0] 24)) := ((((Kept.start w).box _ _ _ _ rfl).box _ _ _ _ (by simp)).res _ _ _ _ _ (by simp)).res _ _ _ _ _ (by simp)
  clear hx hy
  go_enter Try.func42, Try.ntmps42
  go_wp2_with fail
  refine (DivMod_no (Hx.out.grown (Kept.all _ _ S0)) (Hy.out.grown (Kept.all _ _ S0)) (by omega) hY).mono ?_
  rintro e w' ⟨rfl, hg⟩
  replace S0 := Kept.grown _ _ S0 hg
  clear hg
  obtain ⟨c0, c1, c2, c3, r0, r1, r2, r3, r4, r5, r6, r7, G⟩ := id S0
  go_wp2_with fail
  have S2 := (Kept.set (g := w.heap.size + 1 + 1 + 1) (u := .bool false) (v := .slice none 0 0) _ _ (by simp <;> omega) (by omega) (Kept.set (g := w.heap.size + 1 + 1) (u := .bool false) (v := .slice none 0 0) _ _ (by simp <;> omega) (by omega) S0))
  refine post_div Try.results42 rfl rfl rfl rfl (set2_far (set2_fst r4) (by simp)) (set2_far (set2_snd r5) (by simp)) (set2_fst (set2_has (.inl rfl) r0)) (set2_snd (set2_has (.inr rfl) r1)) ?_
  exact ⟨rfl, Kept.all _ _ S2⟩

set_option maxHeartbeats 2000000 in
theorem DivMod_pos_i {b' : Bool} {s s' : Value} {X Y i j : Nat} {w : World} (hx : Num w s X i) (hy : Num w s' Y j) (hi : i + j ≤ 900000) (hY : Y ≠ 0) :
    Calls Try.prog 42 #[.agg #[.bool false, s], .agg #[.bool b', s']] w (DivI w (sg false X / sg b' Y) (sg false X % sg b' Y) (i + 1) j) := by
  obtain ⟨p, n, cap, rfl⟩ := hx.slice
  obtain ⟨q, m, cap', rfl⟩ := hy.slice
  have Hx := Lib.hid hx
  have Hy := Lib.hid hy
  have D := Lib.hid (show sg false X / sg b' Y = sg b' (X / Y) ∧ sg false X % sg b' Y = ((X % Y : Nat) : Int) by simpa using div_plain (b := false) (b' := b') (X := X) hY (.inl rfl))
  have S0 : Kept w [(w.heap.size + 1, 0, .bool b'), (w.heap.size + 1, 1, .slice q m cap'), (w.heap.size, 0, .bool false), (w.heap.size, 1, .slice p n cap)] [w.heap.size + 1 + 1 + 1, w.heap.size + 1 + 1] ((((w.alloc (.cells #[.bool false, .slice p n cap] 24)).alloc (.cells #[.bool b', .slice q m cap'] 24)).alloc (.cells #[.bool false, .slice none 0 0] 24)).alloc (.cells #[.bool false, .slice none 0 0] 24)) := ((((Kept.start w).box _ _ _ _ rfl).box _ _ _ _ (by simp)).res _ _ _ _ _ (by simp)).res _ _ _ _ _ (by simp)
  clear hx hy
  go_enter Try.func42, Try.ntmps42
  go_wp2_with fail
  have S1 := S0
  refine (DivMod_n (Hx.out.grown (Kept.all _ _ S0)) (Hy.out.grown (Kept.all _ _ S0)) (by omega) hY).mono ?_
  rintro e w' ⟨v, u, rfl, hq, hr, -, bq, br, hg⟩
  obtain ⟨pv, nv, rfl⟩ := hq.slice
  obtain ⟨pu, nu, rfl⟩ := hr.slice
  have Sq := S1.size
  have Lq1 := S1.lt (g := w.heap.size + 1 + 1) (by simp)
  have Lq2 := S1.lt (g := w.heap.size + 1 + 1 + 1) (by simp)
  replace S0 := Kept.grown _ _ S0 hg
  clear hg
  have Sr := Sq
  have Lr1 := Lq1
  have Lr2 := Lq2
  obtain ⟨c0, c1, c2, c3, r0, r1, r2, r3, r4, r5, r6, r7, G⟩ := id S0
  go_wp2_with fail
  refine (signed_any _ _ _ _ _).mono ?_
  rintro e w' ⟨rfl, hg⟩
  replace S0 := Kept.grown _ _ S0 hg
  replace hq := hq.grown hg (.inl rfl)
  replace hr := hr.grown hg (.inl rfl)
  clear hg
  go_wp2_with fail
  refine (signed_any _ _ _ _ _).mono ?_
  rintro e w' ⟨rfl, hg⟩
  replace S0 := Kept.grown _ _ S0 hg
  replace hq := hq.grown hg (.inl rfl)
  replace hr := hr.grown hg (.inl rfl)
  clear hg
  obtain ⟨c0, c1, c2, c3, r0, r1, r2, r3, r4, r5, r6, r7, G⟩ := id S0
  go_wp2_with fail
  refine post_div Try.results42 rfl rfl rfl rfl (set2_far (set2_fst r4) (by simp)) (set2_far (set2_snd r5) (by simp)) (set2_fst (set2_has (.inl rfl) r0)) (set2_snd (set2_has (.inr rfl) r1)) ?_
  exact two_stored (b' := false) rfl rfl hq hr Sq Sr Lq1 Lq2 Lr1 Lr2 D.out.1 D.out.2 (bq.more (by omega)) br (Kept.all _ _ (Kept.set _ _ (by simp <;> omega) (by first | omega | (simp <;> omega)) (Kept.set _ _ (by simp <;> omega) (by first | omega | (simp <;> omega)) S0)))

set_option maxHeartbeats 2000000 in
theorem DivMod_even_i {b' : Bool} {s s' : Value} {X Y i j : Nat} {w : World} (hx : Num w s X i) (hy : Num w s' Y j) (hi : i + j ≤ 900000) (hY : Y ≠ 0) (hR : X % Y = 0) :
    Calls Try.prog 42 #[.agg #[.bool true, s], .agg #[.bool b', s']] w (DivI w (sg true X / sg b' Y) (sg true X % sg b' Y) (i + 1) j) := by
  obtain ⟨p, n, cap, rfl⟩ := hx.slice
  obtain ⟨q, m, cap', rfl⟩ := hy.slice
  have Hx := Lib.hid hx
  have Hy := Lib.hid hy
  have D := Lib.hid (show sg true X / sg b' Y = sg (!b') (X / Y) ∧ sg true X % sg b' Y = ((X % Y : Nat) : Int) by simpa using div_plain (b := true) (b' := b') (X := X) hY (.inr hR))
  have H0 := Lib.hid (show (dig 4294967296 (X % Y)).length = 0 from (dig_len_zero (by omega)).2 hR)
  have S0 : Kept w [(w.heap.size + 1, 0, .bool b'), (w.heap.size + 1, 1, .slice q m cap'), (w.heap.size, 0, .bool true), (w.heap.size, 1, .slice p n cap)] [w.heap.size + 1 + 1 + 1, w.heap.size + 1 + 1] ((((w.alloc (.cells #[.bool true, .slice p n cap] 24)).alloc (.cells #[.bool b', .slice q m cap'] 24)).alloc (.cells #[.bool false, .slice none 0 0] 24)).alloc (.cells #[.bool false, .slice none 0 0] 24)) := ((((Kept.start w).box _ _ _ _ rfl).box _ _ _ _ (by simp)).res _ _ _ _ _ (by simp)).res _ _ _ _ _ (by simp)
  clear hx hy
  go_enter Try.func42, Try.ntmps42
  go_wp2_with fail
  have S1 := S0
  refine (DivMod_n (Hx.out.grown (Kept.all _ _ S0)) (Hy.out.grown (Kept.all _ _ S0)) (by omega) hY).mono ?_
  rintro e w' ⟨v, u, rfl, hq, hr, -, bq, br, hg⟩
  obtain ⟨pv, nv, rfl⟩ := hq.slice
  obtain ⟨pu, nu, rfl⟩ := hr.slice
  have Sq := S1.size
  have Lq1 := S1.lt (g := w.heap.size + 1 + 1) (by simp)
  have Lq2 := S1.lt (g := w.heap.size + 1 + 1 + 1) (by simp)
  replace S0 := Kept.grown _ _ S0 hg
  clear hg
  have Sr := Sq
  have Lr1 := Lq1
  have Lr2 := Lq2
  obtain ⟨c0, c1, c2, c3, r0, r1, r2, r3, r4, r5, r6, r7, G⟩ := id S0
  rw [H0.out] at hr ⊢
  go_wp2_with fail
  refine (signed_any _ _ _ _ _).mono ?_
  rintro e w' ⟨rfl, hg⟩
  replace S0 := Kept.grown _ _ S0 hg
  replace hq := hq.grown hg (.inl rfl)
  replace hr := hr.grown hg (.inl rfl)
  clear hg
  go_wp2_with fail
  refine (signed_any _ _ _ _ _).mono ?_
  rintro e w' ⟨rfl, hg⟩
  replace S0 := Kept.grown _ _ S0 hg
  replace hq := hq.grown hg (.inl rfl)
  replace hr := hr.grown hg (.inl rfl)
  clear hg
  obtain ⟨c0, c1, c2, c3, r0, r1, r2, r3, r4, r5, r6, r7, G⟩ := id S0
  go_wp2_with fail
  refine post_div Try.results42 rfl rfl rfl rfl (set2_far (set2_fst r4) (by simp)) (set2_far (set2_snd r5) (by simp)) (set2_fst (set2_has (.inl rfl) r0)) (set2_snd (set2_has (.inr rfl) r1)) ?_
  exact two_stored (b' := false) rfl H0.out hq hr Sq Sr Lq1 Lq2 Lr1 Lr2 D.out.1 D.out.2 (bq.more (by omega)) br (Kept.all _ _ (Kept.set _ _ (by simp <;> omega) (by first | omega | (simp <;> omega)) (Kept.set _ _ (by simp <;> omega) (by first | omega | (simp <;> omega)) S0)))

set_option maxHeartbeats 2000000 in
theorem DivMod_neg_i {b' : Bool} {s s' : Value} {X Y i j : Nat} {w : World} (hx : Num w s X i) (hy : Num w s' Y j) (hi : i + j ≤ 900000) (hY : Y ≠ 0) (hR : X % Y ≠ 0) :
    Calls Try.prog 42 #[.agg #[.bool true, s], .agg #[.bool b', s']] w (DivI w (sg true X / sg b' Y) (sg true X % sg b' Y) (i + 1 + 1) j) := by
  obtain ⟨p, n, cap, rfl⟩ := hx.slice
  obtain ⟨q, m, cap', rfl⟩ := hy.slice
  have Hx := Lib.hid hx
  have Hy := Lib.hid hy
  have D := Lib.hid (show sg true X / sg b' Y = sg (!b') (X / Y + 1) ∧ sg true X % sg b' Y = ((Y - X % Y : Nat) : Int) by simpa using div_up (b' := b') (X := X) hY hR)
  have L0 : 0 < (dig 4294967296 (X % Y)).length := by have := (dig_len_zero (b := 4294967296) (by omega) (n := X % Y)).1; omega
  have Le := Lib.hid (Nat.le_of_lt (Nat.mod_lt X (Nat.pos_of_ne_zero hY)))
  have S0 : Kept w [(w.heap.size + 1, 0, .bool b'), (w.heap.size + 1, 1, .slice q m cap'), (w.heap.size, 0, .bool true), (w.heap.size, 1, .slice p n cap)] [w.heap.size + 1 + 1 + 1, w.heap.size + 1 + 1] ((((w.alloc (.cells #[.bool true, .slice p n cap] 24)).alloc (.cells #[.bool b', .slice q m cap'] 24)).alloc (.cells #[.bool false, .slice none 0 0] 24)).alloc (.cells #[.bool false, .slice none 0 0] 24)) := ((((Kept.start w).box _ _ _ _ rfl).box _ _ _ _ (by simp)).res _ _ _ _ _ (by simp)).res _ _ _ _ _ (by simp)
  clear hx hy
  go_enter Try.func42, Try.ntmps42
  go_wp2_with fail
  have S1 := S0
  refine (DivMod_n (Hx.out.grown (Kept.all _ _ S0)) (Hy.out.grown (Kept.all _ _ S0)) (by omega) hY).mono ?_
  rintro e w' ⟨v, u, rfl, hq, hr, -, bq, br, hg⟩
  obtain ⟨pv, nv, rfl⟩ := hq.slice
  obtain ⟨pu, nu, rfl⟩ := hr.slice
  have Sq := S1.size
  have Lq1 := S1.lt (g := w.heap.size + 1 + 1) (by simp)
  have Lq2 := S1.lt (g := w.heap.size + 1 + 1 + 1) (by simp)
  replace S0 := Kept.grown _ _ S0 hg
  clear hg
  obtain ⟨c0, c1, c2, c3, r0, r1, r2, r3, r4, r5, r6, r7, G⟩ := id S0
  have L0' : (0 : Int) < (((dig 4294967296 (X % Y)).length : Nat) : Int) := by omega
  go_wp2_with fail
  have S3 := S0
  have Nq := (show NumC _ _ _ _ from ⟨hq.sl, bq⟩).num
  refine (Add_n (Nq.grown (grown_alloc _ _ _)) (Num.one _) (by omega)).mono ?_
  clear Nq
  rintro e w' ⟨v, rfl, h, bq1, hg⟩
  replace hg := grown_trans (grown_alloc _ _ _) hg
  obtain ⟨pv1, nv1, rfl⟩ := h.slice
  have Nr := (show NumC _ _ _ _ from ⟨hr.sl, br⟩).num.grown hg
  replace Sq := Nat.le_trans S3.size (grown_alloc _ (.cells #[.int .u32 1] 65) none).size
  replace Lq1 := Nat.lt_of_lt_of_le (S3.lt (g := w.heap.size + 1 + 1) (by simp)) (grown_alloc _ (.cells #[.int .u32 1] 65) none).size
  replace Lq2 := Nat.lt_of_lt_of_le (S3.lt (g := w.heap.size + 1 + 1 + 1) (by simp)) (grown_alloc _ (.cells #[.int .u32 1] 65) none).size
  replace S0 := Kept.grown _ _ S0 hg
  clear hg hq hr
  have hq := h
  clear h
  clear c0 c1 c2 c3 r0 r1 r2 r3 r4 r5 r6 r7 G
  obtain ⟨c0, c1, c2, c3, r0, r1, r2, r3, r4, r5, r6, r7, G⟩ := id S0
  go_wp2_with fail
  refine (Sub_n (Hy.out.grown (Kept.all _ _ S0)) Nr (by omega) Le.out).mono ?_
  rintro e w' ⟨v, rfl, hr, br, hg⟩
  obtain ⟨pv2, nv2, rfl⟩ := hr.slice
  have Sr := S0.size
  have Lr1 := S0.lt (g := w.heap.size + 1 + 1) (by simp)
  have Lr2 := S0.lt (g := w.heap.size + 1 + 1 + 1) (by simp)
  replace S0 := Kept.grown _ _ S0 hg
  replace hq := hq.grown hg (.inl rfl)
  clear hg
  clear c0 c1 c2 c3 r0 r1 r2 r3 r4 r5 r6 r7 G
  obtain ⟨c0, c1, c2, c3, r0, r1, r2, r3, r4, r5, r6, r7, G⟩ := id S0
  go_wp2_with fail
  refine (signed_any _ _ _ _ _).mono ?_
  rintro e w' ⟨rfl, hg⟩
  replace S0 := Kept.grown _ _ S0 hg
  replace hq := hq.grown hg (.inl rfl)
  replace hr := hr.grown hg (.inl rfl)
  clear hg
  go_wp2_with fail
  refine (signed_any _ _ _ _ _).mono ?_
  rintro e w' ⟨rfl, hg⟩
  replace S0 := Kept.grown _ _ S0 hg
  replace hq := hq.grown hg (.inl rfl)
  replace hr := hr.grown hg (.inl rfl)
  clear hg
  obtain ⟨c0, c1, c2, c3, r0, r1, r2, r3, r4, r5, r6, r7, G⟩ := id S0
  go_wp2_with fail
  refine post_div Try.results42 rfl rfl rfl rfl (set2_far (set2_fst r4) (by simp)) (set2_far (set2_snd r5) (by simp)) (set2_fst (set2_has (.inl rfl) r0)) (set2_snd (set2_has (.inr rfl) r1)) ?_
  exact two_stored (b' := false) rfl rfl hq hr Sq Sr Lq1 Lq2 Lr1 Lr2 D.out.1 D.out.2 bq1 br (Kept.all _ _ (Kept.set _ _ (by simp <;> omega) (by first | omega | (simp <;> omega)) (Kept.set _ _ (by simp <;> omega) (by first | omega | (simp <;> omega)) S0)))

end Go.Proofs.Ytmmmpdpgkjcohaa
