/- The reference's whole numbers, one contract a function: made, From, To, Neg, Add, Sub, Mul, Sign, Cmp, Zero. -/
import Derived.Test.YtmmmpdpgkjcohaaIntE
namespace Go.Proofs.Ytmmmpdpgkjcohaa
open Go.RowKit

/-- v is the whole number z in digits to the base 10000, of a size below 2 to the 32 k. -/
def DecI (w : World) (v : Value) (z : Int) (k : Nat) : Prop := ∃ p cap, v = .agg #[.slice p (dig 10000 z.natAbs).length cap, .bool (decide (z < 0))] ∧ Dec w (.slice p (dig 10000 z.natAbs).length cap) z.natAbs k
theorem DecI.grown {w w' : World} {v : Value} {z : Int} {k : Nat} (h : DecI w v z k) (g : w.grownBy w' none) : DecI w' v z k := by
  obtain ⟨p, cap, h1, h2⟩ := h
  exact ⟨p, cap, h1, h2.grown g⟩
theorem DecI.bd {w : World} {v : Value} {z : Int} {k : Nat} (h : DecI w v z k) : Bd z.natAbs k := by
  obtain ⟨p, cap, h1, h2⟩ := h
  exact h2.2
def OwnD (w : World) (B : Nat) (v : Value) (z : Int) : Prop := ∃ p cap, v = .agg #[.slice p (dig 10000 z.natAbs).length cap, .bool (decide (z < 0))] ∧ Own w 3 .i64 B (.slice p (dig 10000 z.natAbs).length cap) (dig 10000 z.natAbs)
theorem OwnD.grown {w w' : World} {B : Nat} {v : Value} {z : Int} (h : OwnD w B v z) (g : w.grownBy w' none) : OwnD w' B v z := by
  obtain ⟨p, cap, h1, h2⟩ := h
  exact ⟨p, cap, h1, h2.grown g (.inl rfl)⟩
theorem OwnD.decI {w : World} {B : Nat} {v : Value} {z : Int} {k : Nat} (h : OwnD w B v z) (hb : Bd z.natAbs k) : DecI w v z k := by
  obtain ⟨p, cap, h1, h2⟩ := h
  exact ⟨p, cap, h1, h2.sl, hb⟩
/-- A whole number was made. -/
def MadeR (w : World) (z : Int) (k : Nat) (e : Ending) (w' : World) : Prop := ∃ v, e = .returned v ∧ OwnD w' w.heap.size v z ∧ Bd z.natAbs k ∧ w.grownBy w' none
theorem MadeR.of {w w' : World} {z y : Int} {k l : Nat} {e : Ending} (h : MadeR w z k e w') (hz : z = y) (hk : k ≤ l) : MadeR w y l e w' := by
  subst hz
  obtain ⟨v, h1, h2, h3, h4⟩ := h
  exact ⟨v, h1, h2, h3.more hk, h4⟩

theorem made_any (b : Bool) (p : Option Addr) (n cap : Nat) (w : World) :
    Calls Try.prog 53 #[.slice p n cap, .bool b] w fun e w' => e = .returned (.agg #[.slice p n cap, .bool (b && decide (0 < n))]) ∧ w.grownBy w' none := by
  go_enter Try.func53, Try.ntmps53
  cases b
  all_goals
    go_wp2_with fail
    simp [bodyPost, results, Try.results53, go_sem]
    exact grown_alloc _ _ _
theorem FromN_n {w : World} {v : Value} {X k : Nat} (hx : Num w v X k) (hk : k ≤ 1000000) : Calls Try.prog 75 #[v] w (MadeD w X k) := by
  have b := hx.bd
  obtain ⟨xs, h1, h2, rfl, h3⟩ := hx
  exact (RFrom h1 h2 (by omega)).mono fun _ _ h => MadeD.of h b

/-- The end of a function that hands back a sign and digits. -/
theorem end_dec {fn : Func} {a : Act} {W w : World} {r g X k B cap n : Nat} {b : Bool} {p : Option Addr} {z : Int} {x y : Value} (hres : fn.results = #[ResultVar.cell r 28]) (hd : a.defers = []) (hr : a.tmps[r]? = some (.pointer (some ⟨g, 0, none⟩)))
    (h0 : (set2 w g (.slice p n cap) (.bool (b && decide (0 < n)))).cell? ⟨g, 0, none⟩ = some x) (h1 : (set2 w g (.slice p n cap) (.bool (b && decide (0 < n)))).cell? ⟨g, 1, none⟩ = some y)
    (hG : W.grownBy (set2 w g (.slice p n cap) (.bool (b && decide (0 < n)))) none)
    (ho : Own w 3 .i64 B (.slice p n cap) (dig 10000 X)) (hB : W.heap.size ≤ B) (hg : g < B) (hn : (dig 10000 X).length = n) (hz : sg b X = z) (hb : Bd X k) :
    bodyPost Try.prog fn (MadeR W z k) .ret a (set2 w g (.slice p n cap) (.bool (b && decide (0 < n)))) := by
  subst hz hn
  refine post_box28 hres hd hr (set2_read0 h0) (set2_read1 h1) ⟨_, rfl, ⟨p, cap, ?_, ?_⟩, by rw [sg_abs]; exact hb, hG⟩
  · rw [sg_neg, sg_abs, dig_some _ _ (by omega)]
  · rw [sg_abs]
    exact ((ho.mono hB).grown (set2_grown _ _ _ _) (own_ne ho hg))
/-- The same of a number that was made so already. -/
theorem end_own {fn : Func} {a : Act} {W w : World} {r g k B : Nat} {z : Int} {u v x y : Value} (hres : fn.results = #[ResultVar.cell r 28]) (hd : a.defers = []) (hr : a.tmps[r]? = some (.pointer (some ⟨g, 0, none⟩)))
    (h0 : (set2 w g u v).cell? ⟨g, 0, none⟩ = some x) (h1 : (set2 w g u v).cell? ⟨g, 1, none⟩ = some y) (hG : W.grownBy (set2 w g u v) none)
    (ho : OwnD w B (.agg #[u, v]) z) (hB : W.heap.size ≤ B) (hg : g < B) (hb : Bd z.natAbs k) : bodyPost Try.prog fn (MadeR W z k) .ret a (set2 w g u v) := by
  refine post_box28 hres hd hr (set2_read0 h0) (set2_read1 h1) ⟨_, rfl, ?_, hb, hG⟩
  obtain ⟨p, cap, h2, h3⟩ := ho
  refine ⟨p, cap, h2, ?_⟩
  simp only [Value.agg.injEq, Array.mk.injEq, List.cons.injEq, and_true] at h2
  obtain ⟨rfl, -⟩ := h2
  exact ((h3.mono hB).grown (set2_grown _ _ _ _) (own_ne h3 hg))

set_option maxHeartbeats 1000000 in
theorem From_r {v : Value} {z : Int} {k : Nat} {w : World} (hx : IntV w v z k) (hk : k ≤ 1000000) :
    Calls Try.prog 48 #[v] w (MadeR w z k) := by
  obtain ⟨b, s, X, rfl, hx, rfl⟩ := hx
  obtain ⟨p, n, cap, rfl⟩ := hx.slice
  have Hx := Lib.hid hx
  clear hx
  have S0 : Kept w [(w.heap.size, 0, .bool b), (w.heap.size, 1, .slice p n cap)] [w.heap.size + 1] ((w.alloc (.cells #[.bool b, .slice p n cap] 24)).alloc (.cells #[.slice none 0 0, .bool false] 28)) := ((Kept.start w).box _ _ _ _ rfl).res _ _ _ _ _ (by simp)
  go_enter Try.func48, Try.ntmps48
  go_wp2_with fail
  go_region_held3 (fun w' => w'.cell? ⟨w.heap.size, 0, none⟩ = some (.bool b) ∧ w'.cell? ⟨w.heap.size, 1, none⟩ = some (.slice p n cap) ∧ w'.cell? ⟨w.heap.size + 1, 0, none⟩ = some (cellOf w' ⟨w.heap.size + 1, 0, none⟩) ∧ w'.cell? ⟨w.heap.size + 1, 1, none⟩ = some (cellOf w' ⟨w.heap.size + 1, 1, none⟩) ∧ w'.frozen? ⟨w.heap.size + 1, 0, none⟩ = false ∧ w'.frozen? ⟨w.heap.size + 1, 1, none⟩ = false ∧ w.grownBy w' none) (first | exact Kept.step (W := w) [(w.heap.size, 0, .bool b), (w.heap.size, 1, .slice p n cap)] [w.heap.size + 1] (by assumption) (by assumption) | exact Kept.set (W := w) [(w.heap.size, 0, .bool b), (w.heap.size, 1, .slice p n cap)] [w.heap.size + 1] (by simp <;> omega) (by first | omega | (simp <;> omega)) (by assumption) | exact Kept.step [(w.heap.size, 0, .bool b), (w.heap.size, 1, .slice p n cap)] [w.heap.size + 1] (grown_drew _ _) S0)
    (first | (go_at_call 75; refine (FromN_n (Hx.out.grown (by go_split_ands; assumption)) hk).mono ?_; rintro e w' ⟨v, rfl, h, bd, hg⟩; obtain ⟨pv, nv, rfl⟩ := h.slice) | (go_at_call 53; refine (made_any _ _ _ _ _).mono ?_; rintro e w' ⟨rfl, hg⟩; replace h := h.grown hg (.inl rfl)))
  rename_i hend
  go_wp2_with fail
  exact end_dec Try.results48 rfl rfl hend.2.2.1 hend.2.2.2.1 hend.2.2.2.2.2.2 h (by first | omega | (simp <;> omega)) (by first | omega | (simp <;> omega)) rfl rfl bd

set_option maxHeartbeats 1000000 in
theorem To_r {v : Value} {z : Int} {k : Nat} {w : World} (hx : DecI w v z k) (hk : k ≤ 1000000) :
    Calls Try.prog 38 #[v] w (MadeI w z k) := by
  have bx := hx.bd
  obtain ⟨p, cap, rfl, hx⟩ := hx
  have Hx := Lib.hid hx
  clear hx
  have S0 : Kept w [(w.heap.size, 0, .slice p (dig 10000 z.natAbs).length cap), (w.heap.size, 1, .bool (decide (z < 0)))] [w.heap.size + 1] ((w.alloc (.cells #[.slice p (dig 10000 z.natAbs).length cap, .bool (decide (z < 0))] 28)).alloc (.cells #[.bool false, .slice none 0 0] 24)) := ((Kept.start w).box _ _ _ _ rfl).res _ _ _ _ _ (by simp)
  go_enter Try.func38, Try.ntmps38
  go_wp2_with fail
  go_region_held3 (fun w' => w'.cell? ⟨w.heap.size, 0, none⟩ = some (.slice p (dig 10000 z.natAbs).length cap) ∧ w'.cell? ⟨w.heap.size, 1, none⟩ = some (.bool (decide (z < 0))) ∧ w'.cell? ⟨w.heap.size + 1, 0, none⟩ = some (cellOf w' ⟨w.heap.size + 1, 0, none⟩) ∧ w'.cell? ⟨w.heap.size + 1, 1, none⟩ = some (cellOf w' ⟨w.heap.size + 1, 1, none⟩) ∧ w'.frozen? ⟨w.heap.size + 1, 0, none⟩ = false ∧ w'.frozen? ⟨w.heap.size + 1, 1, none⟩ = false ∧ w.grownBy w' none) (first | exact Kept.step (W := w) [(w.heap.size, 0, .slice p (dig 10000 z.natAbs).length cap), (w.heap.size, 1, .bool (decide (z < 0)))] [w.heap.size + 1] (by assumption) (by assumption) | exact Kept.set (W := w) [(w.heap.size, 0, .slice p (dig 10000 z.natAbs).length cap), (w.heap.size, 1, .bool (decide (z < 0)))] [w.heap.size + 1] (by simp <;> omega) (by first | omega | (simp <;> omega)) (by assumption) | exact Kept.step [(w.heap.size, 0, .slice p (dig 10000 z.natAbs).length cap), (w.heap.size, 1, .bool (decide (z < 0)))] [w.heap.size + 1] (grown_drew _ _) S0)
    (first | (go_at_call 68; refine (RTo (Hx.out.grown (by go_split_ands; assumption)).1 (by have := Hx.out.len; omega)).mono ?_; rintro e w' ⟨v, rfl, h, hg⟩; obtain ⟨pv, nv, rfl⟩ := h.slice))
  rename_i hend
  go_wp2_with fail
  exact end_made Try.results38 rfl rfl hend.2.2.1 hend.2.2.2.1 hend.2.2.2.2.2.2 ⟨_, _, rfl, h⟩ (by first | omega | (simp <;> omega)) (by first | omega | (simp <;> omega)) bx
set_option maxHeartbeats 1000000 in
theorem Neg_r {v : Value} {z : Int} {k : Nat} {w : World} (hx : DecI w v z k) :
    Calls Try.prog 20 #[v] w fun e w' => ∃ v, e = .returned v ∧ DecI w' v (-z) k ∧ w.grownBy w' none := by
  have bx := hx.bd
  obtain ⟨p, cap, rfl, hx⟩ := hx
  have Hx := Lib.hid hx
  clear hx
  clear bx
  have S0 : Kept w [(w.heap.size, 0, .slice p (dig 10000 z.natAbs).length cap), (w.heap.size, 1, .bool (decide (z < 0)))] [w.heap.size + 1] ((w.alloc (.cells #[.slice p (dig 10000 z.natAbs).length cap, .bool (decide (z < 0))] 28)).alloc (.cells #[.slice none 0 0, .bool false] 28)) := ((Kept.start w).box _ _ _ _ rfl).res _ _ _ _ _ (by simp)
  go_enter Try.func20, Try.ntmps20
  go_wp2_with fail
  refine (made_any _ _ _ _ _).mono ?_
  rintro e w1 ⟨rfl, hg⟩
  replace S0 := Kept.grown _ _ S0 hg
  clear hg
  obtain ⟨c0, c1, r0, r1, f0, f1, G⟩ := id S0
  go_wp2_with fail
  have G2 := Kept.all _ _ (Kept.set (g := w.heap.size + 1) (u := .slice p (dig 10000 z.natAbs).length cap) (v := .bool (!decide (z < 0) && decide (0 < (dig 10000 z.natAbs).length))) _ _ (by simp <;> omega) (by omega) S0)
  refine post_box28 Try.results20 rfl rfl (set2_fst r0) (set2_snd r1) ⟨_, rfl, ⟨p, cap, ?_, ?_⟩, G2⟩
  · rw [Int.natAbs_neg, dig_some _ _ (by omega)]
    congr 5
    rw [Bool.eq_iff_iff]
    simp
    omega
  · rw [Int.natAbs_neg]
    exact Hx.out.grown G2
theorem Sign_r {v : Value} {z : Int} {k : Nat} {w : World} (hx : DecI w v z k) :
    Calls Try.prog 61 #[v] w fun e w' => e = .returned (.int .i64 (cmpI z 0)) ∧ w.grownBy w' none := by
  have bx := hx.bd
  obtain ⟨p, cap, rfl, hx⟩ := hx
  have Hx := Lib.hid hx
  clear hx
  clear bx Hx
  have hl := dig_len_zero (b := 10000) (by omega) (n := z.natAbs)
  generalize (dig 10000 z.natAbs).length = l at *
  by_cases h0 : z = 0
  · obtain rfl : l = 0 := by omega
    subst h0
    go_enter Try.func61, Try.ntmps61
    go_wp2_with fail
    go_ret
    exact ⟨rfl, grown_alloc _ _ _⟩
  · have hl' : (l : Int) ≠ 0 := by omega
    by_cases hn : z < 0
    · rw [cmpI, if_pos hn, decide_eq_true hn]
      clear hl
      go_enter Try.func61, Try.ntmps61
      go_wp2_with fail
      go_ret
      exact ⟨rfl, grown_alloc _ _ _⟩
    · rw [cmpI, if_neg hn, if_neg h0, decide_eq_false hn]
      clear hl
      go_enter Try.func61, Try.ntmps61
      go_wp2_with fail
      go_ret
      exact ⟨rfl, grown_alloc _ _ _⟩

set_option maxHeartbeats 2000000 in
theorem Mul_d {b b' : Bool} {p q : Option Addr} {n m cap cap' X Y i j : Nat} {w : World} (hx : Dec w (.slice p n cap) X i) (hy : Dec w (.slice q m cap') Y j) (hi : i + j ≤ 1000000) :
    Calls Try.prog 18 #[.agg #[.slice p n cap, .bool b], .agg #[.slice q m cap', .bool b']] w (MadeR w (sg b X * sg b' Y) (i + j)) := by
  have Hx := Lib.hid hx
  have Hy := Lib.hid hy
  have S0 : Kept w [(w.heap.size + 1, 0, (.slice q m cap')), (w.heap.size + 1, 1, (.bool b')), (w.heap.size, 0, (.slice p n cap)), (w.heap.size, 1, (.bool b))] [w.heap.size + 1 + 1] (((w.alloc (.cells #[.slice p n cap, .bool b] 28)).alloc (.cells #[.slice q m cap', .bool b'] 28)).alloc (.cells #[.slice none 0 0, .bool false] 28)) := (((Kept.start w).box _ _ _ _ rfl).box _ _ _ _ (by simp)).res _ _ _ _ _ (by simp)
  clear hx hy
  go_enter Try.func18, Try.ntmps18
  go_wp2_with fail
  go_region_held3 (fun w' => w'.cell? ⟨w.heap.size + 1, 0, none⟩ = some ((.slice q m cap')) ∧ w'.cell? ⟨w.heap.size + 1, 1, none⟩ = some ((.bool b')) ∧ w'.cell? ⟨w.heap.size, 0, none⟩ = some ((.slice p n cap)) ∧ w'.cell? ⟨w.heap.size, 1, none⟩ = some ((.bool b)) ∧ w'.cell? ⟨w.heap.size + 1 + 1, 0, none⟩ = some (cellOf w' ⟨w.heap.size + 1 + 1, 0, none⟩) ∧ w'.cell? ⟨w.heap.size + 1 + 1, 1, none⟩ = some (cellOf w' ⟨w.heap.size + 1 + 1, 1, none⟩) ∧ w'.frozen? ⟨w.heap.size + 1 + 1, 0, none⟩ = false ∧ w'.frozen? ⟨w.heap.size + 1 + 1, 1, none⟩ = false ∧ w.grownBy w' none) (first | exact Kept.step (W := w) [(w.heap.size + 1, 0, (.slice q m cap')), (w.heap.size + 1, 1, (.bool b')), (w.heap.size, 0, (.slice p n cap)), (w.heap.size, 1, (.bool b))] [w.heap.size + 1 + 1] (by assumption) (by assumption) | exact Kept.set (W := w) [(w.heap.size + 1, 0, (.slice q m cap')), (w.heap.size + 1, 1, (.bool b')), (w.heap.size, 0, (.slice p n cap)), (w.heap.size, 1, (.bool b))] [w.heap.size + 1 + 1] (by simp <;> omega) (by first | omega | (simp <;> omega)) (by assumption) | exact Kept.step [(w.heap.size + 1, 0, (.slice q m cap')), (w.heap.size + 1, 1, (.bool b')), (w.heap.size, 0, (.slice p n cap)), (w.heap.size, 1, (.bool b))] [w.heap.size + 1 + 1] (grown_drew _ _) S0)
    (first | (go_at_call 56; refine (MulD_n (Hx.out.grown (by go_split_ands; assumption)) (Hy.out.grown (by go_split_ands; assumption)) (by omega)).mono ?_; rintro e w' ⟨v, rfl, h, bd, hg⟩; obtain ⟨pv, nv, rfl⟩ := h.slice) | (go_at_call 53; refine (made_any _ _ _ _ _).mono ?_; rintro e w' ⟨rfl, hg⟩; replace h := h.grown hg (.inl rfl)))
  rename_i hend
  go_wp2_with fail
  exact end_dec Try.results18 rfl rfl hend.2.2.2.2.1 hend.2.2.2.2.2.1 hend.2.2.2.2.2.2.2.2 h (by first | omega | (simp <;> omega)) (by first | omega | (simp <;> omega)) rfl (sg_mul _ _ _ _) bd

set_option maxHeartbeats 2000000 in
theorem Add_same_d {b : Bool} {p q : Option Addr} {n m cap cap' X Y i j : Nat} {w : World} (hx : Dec w (.slice p n cap) X i) (hy : Dec w (.slice q m cap') Y j) (hi : i + j ≤ 1000000) :
    Calls Try.prog 15 #[.agg #[.slice p n cap, .bool b], .agg #[.slice q m cap', .bool b]] w (MadeR w (sg b X + sg b Y) (i + j + 1)) := by
  have Hx := Lib.hid hx
  have Hy := Lib.hid hy
  have S0 : Kept w [(w.heap.size + 1, 0, (.slice q m cap')), (w.heap.size + 1, 1, (.bool b)), (w.heap.size, 0, (.slice p n cap)), (w.heap.size, 1, (.bool b))] [w.heap.size + 1 + 1] (((w.alloc (.cells #[.slice p n cap, .bool b] 28)).alloc (.cells #[.slice q m cap', .bool b] 28)).alloc (.cells #[.slice none 0 0, .bool false] 28)) := (((Kept.start w).box _ _ _ _ rfl).box _ _ _ _ (by simp)).res _ _ _ _ _ (by simp)
  clear hx hy
  go_enter Try.func15, Try.ntmps15
  obtain ⟨c0, c1, c2, c3, r0, r1, r2, r3, G⟩ := id S0
  go_wp2_with fail
  go_region_held3 (fun w' => w'.cell? ⟨w.heap.size + 1, 0, none⟩ = some ((.slice q m cap')) ∧ w'.cell? ⟨w.heap.size + 1, 1, none⟩ = some ((.bool b)) ∧ w'.cell? ⟨w.heap.size, 0, none⟩ = some ((.slice p n cap)) ∧ w'.cell? ⟨w.heap.size, 1, none⟩ = some ((.bool b)) ∧ w'.cell? ⟨w.heap.size + 1 + 1, 0, none⟩ = some (cellOf w' ⟨w.heap.size + 1 + 1, 0, none⟩) ∧ w'.cell? ⟨w.heap.size + 1 + 1, 1, none⟩ = some (cellOf w' ⟨w.heap.size + 1 + 1, 1, none⟩) ∧ w'.frozen? ⟨w.heap.size + 1 + 1, 0, none⟩ = false ∧ w'.frozen? ⟨w.heap.size + 1 + 1, 1, none⟩ = false ∧ w.grownBy w' none) (first | exact Kept.step (W := w) [(w.heap.size + 1, 0, (.slice q m cap')), (w.heap.size + 1, 1, (.bool b)), (w.heap.size, 0, (.slice p n cap)), (w.heap.size, 1, (.bool b))] [w.heap.size + 1 + 1] (by assumption) (by assumption) | exact Kept.set (W := w) [(w.heap.size + 1, 0, (.slice q m cap')), (w.heap.size + 1, 1, (.bool b)), (w.heap.size, 0, (.slice p n cap)), (w.heap.size, 1, (.bool b))] [w.heap.size + 1 + 1] (by simp <;> omega) (by first | omega | (simp <;> omega)) (by assumption) | exact Kept.step [(w.heap.size + 1, 0, (.slice q m cap')), (w.heap.size + 1, 1, (.bool b)), (w.heap.size, 0, (.slice p n cap)), (w.heap.size, 1, (.bool b))] [w.heap.size + 1 + 1] (grown_drew _ _) S0)
    (first | (go_at_call 54; refine (AddD_n (Hx.out.grown (by go_split_ands; assumption)) (Hy.out.grown (by go_split_ands; assumption)) (by omega)).mono ?_; rintro e w' ⟨v, rfl, h, bd, hg⟩; obtain ⟨pv, nv, rfl⟩ := h.slice) | (go_at_call 53; refine (made_any _ _ _ _ _).mono ?_; rintro e w' ⟨rfl, hg⟩; replace h := h.grown hg (.inl rfl)))
  rename_i hend
  go_wp2_with fail
  exact end_dec Try.results15 rfl rfl hend.2.2.2.2.1 hend.2.2.2.2.2.1 hend.2.2.2.2.2.2.2.2 h (by first | omega | (simp <;> omega)) (by first | omega | (simp <;> omega)) rfl (sg_add _ _ _) bd

set_option maxHeartbeats 2000000 in
theorem Add_tf_ge_d {p q : Option Addr} {n m cap cap' X Y i j : Nat} {w : World} (hx : Dec w (.slice p n cap) X i) (hy : Dec w (.slice q m cap') Y j) (hi : i + j ≤ 1000000) (hc : Y ≤ X) :
    Calls Try.prog 15 #[.agg #[.slice p n cap, .bool true], .agg #[.slice q m cap', .bool false]] w (MadeR w (sg true (X - Y)) (i)) := by
  have Hx := Lib.hid hx
  have Hy := Lib.hid hy
  have Hc := Lib.hid hc
  have S0 : Kept w [(w.heap.size + 1, 0, (.slice q m cap')), (w.heap.size + 1, 1, (.bool false)), (w.heap.size, 0, (.slice p n cap)), (w.heap.size, 1, (.bool true))] [w.heap.size + 1 + 1] (((w.alloc (.cells #[.slice p n cap, .bool true] 28)).alloc (.cells #[.slice q m cap', .bool false] 28)).alloc (.cells #[.slice none 0 0, .bool false] 28)) := (((Kept.start w).box _ _ _ _ rfl).box _ _ _ _ (by simp)).res _ _ _ _ _ (by simp)
  clear hx hy hc
  go_enter Try.func15, Try.ntmps15
  go_wp2_with fail
  refine (CmpD_n (Hx.out.grown (Kept.all _ _ S0)) (Hy.out.grown (Kept.all _ _ S0))).mono ?_
  rintro e w1 ⟨rfl, hg⟩
  have hge := cmpN_ge Hc.out
  generalize cmpN X Y = r at *
  have s1 := hg.size
  have s2 := S0.lt (g := w.heap.size + 1 + 1) (by simp)
  have Sq := S0.size
  replace S0 := Kept.grown _ _ S0 hg
  clear hg
  obtain ⟨c0, c1, c2, c3, r0, r1, r2, r3, G⟩ := id S0
  go_wp2_with fail
  go_region_held3 (fun w' => w'.cell? ⟨w.heap.size + 1, 0, none⟩ = some ((.slice q m cap')) ∧ w'.cell? ⟨w.heap.size + 1, 1, none⟩ = some ((.bool false)) ∧ w'.cell? ⟨w.heap.size, 0, none⟩ = some ((.slice p n cap)) ∧ w'.cell? ⟨w.heap.size, 1, none⟩ = some ((.bool true)) ∧ w'.cell? ⟨w.heap.size + 1 + 1, 0, none⟩ = some (cellOf w' ⟨w.heap.size + 1 + 1, 0, none⟩) ∧ w'.cell? ⟨w.heap.size + 1 + 1, 1, none⟩ = some (cellOf w' ⟨w.heap.size + 1 + 1, 1, none⟩) ∧ w'.frozen? ⟨w.heap.size + 1 + 1, 0, none⟩ = false ∧ w'.frozen? ⟨w.heap.size + 1 + 1, 1, none⟩ = false ∧ w.grownBy w' none) (first | exact Kept.step (W := w) [(w.heap.size + 1, 0, (.slice q m cap')), (w.heap.size + 1, 1, (.bool false)), (w.heap.size, 0, (.slice p n cap)), (w.heap.size, 1, (.bool true))] [w.heap.size + 1 + 1] (by assumption) (by assumption) | exact Kept.set (W := w) [(w.heap.size + 1, 0, (.slice q m cap')), (w.heap.size + 1, 1, (.bool false)), (w.heap.size, 0, (.slice p n cap)), (w.heap.size, 1, (.bool true))] [w.heap.size + 1 + 1] (by simp <;> omega) (by first | omega | (simp <;> omega)) (by assumption) | exact Kept.step [(w.heap.size + 1, 0, (.slice q m cap')), (w.heap.size + 1, 1, (.bool false)), (w.heap.size, 0, (.slice p n cap)), (w.heap.size, 1, (.bool true))] [w.heap.size + 1 + 1] (grown_drew _ _) S0)
    (first | (go_at_call 55; refine (SubD_n (Hx.out.grown (by go_split_ands; assumption)) (Hy.out.grown (by go_split_ands; assumption)) (by omega) Hc.out).mono ?_; rintro e w' ⟨v, rfl, h, bd, hg⟩; obtain ⟨pv, nv, rfl⟩ := h.slice) | (go_at_call 53; refine (made_any _ _ _ _ _).mono ?_; rintro e w' ⟨rfl, hg⟩; replace h := h.grown hg (.inl rfl)))
  rename_i hend
  go_wp2_with fail
  exact end_dec (b := true) Try.results15 rfl rfl hend.2.2.2.2.1 hend.2.2.2.2.2.1 hend.2.2.2.2.2.2.2.2 h (by simp at s1 s2 Sq ⊢ <;> omega) (by simp at s1 s2 Sq ⊢ <;> omega) rfl (rfl) bd

set_option maxHeartbeats 2000000 in
theorem Add_tf_lt_d {p q : Option Addr} {n m cap cap' X Y i j : Nat} {w : World} (hx : Dec w (.slice p n cap) X i) (hy : Dec w (.slice q m cap') Y j) (hi : i + j ≤ 1000000) (hc : X < Y) :
    Calls Try.prog 15 #[.agg #[.slice p n cap, .bool true], .agg #[.slice q m cap', .bool false]] w (MadeR w (sg false (Y - X)) (j)) := by
  have Hx := Lib.hid hx
  have Hy := Lib.hid hy
  have Hc := Lib.hid hc
  have S0 : Kept w [(w.heap.size + 1, 0, (.slice q m cap')), (w.heap.size + 1, 1, (.bool false)), (w.heap.size, 0, (.slice p n cap)), (w.heap.size, 1, (.bool true))] [w.heap.size + 1 + 1] (((w.alloc (.cells #[.slice p n cap, .bool true] 28)).alloc (.cells #[.slice q m cap', .bool false] 28)).alloc (.cells #[.slice none 0 0, .bool false] 28)) := (((Kept.start w).box _ _ _ _ rfl).box _ _ _ _ (by simp)).res _ _ _ _ _ (by simp)
  clear hx hy hc
  go_enter Try.func15, Try.ntmps15
  go_wp2_with fail
  refine (CmpD_n (Hx.out.grown (Kept.all _ _ S0)) (Hy.out.grown (Kept.all _ _ S0))).mono ?_
  rintro e w1 ⟨rfl, hg⟩
  rw [cmpN_lt Hc.out]
  have s1 := hg.size
  have s2 := S0.lt (g := w.heap.size + 1 + 1) (by simp)
  have Sq := S0.size
  replace S0 := Kept.grown _ _ S0 hg
  clear hg
  obtain ⟨c0, c1, c2, c3, r0, r1, r2, r3, G⟩ := id S0
  go_wp2_with fail
  go_region_held3 (fun w' => w'.cell? ⟨w.heap.size + 1, 0, none⟩ = some ((.slice q m cap')) ∧ w'.cell? ⟨w.heap.size + 1, 1, none⟩ = some ((.bool false)) ∧ w'.cell? ⟨w.heap.size, 0, none⟩ = some ((.slice p n cap)) ∧ w'.cell? ⟨w.heap.size, 1, none⟩ = some ((.bool true)) ∧ w'.cell? ⟨w.heap.size + 1 + 1, 0, none⟩ = some (cellOf w' ⟨w.heap.size + 1 + 1, 0, none⟩) ∧ w'.cell? ⟨w.heap.size + 1 + 1, 1, none⟩ = some (cellOf w' ⟨w.heap.size + 1 + 1, 1, none⟩) ∧ w'.frozen? ⟨w.heap.size + 1 + 1, 0, none⟩ = false ∧ w'.frozen? ⟨w.heap.size + 1 + 1, 1, none⟩ = false ∧ w.grownBy w' none) (first | exact Kept.step (W := w) [(w.heap.size + 1, 0, (.slice q m cap')), (w.heap.size + 1, 1, (.bool false)), (w.heap.size, 0, (.slice p n cap)), (w.heap.size, 1, (.bool true))] [w.heap.size + 1 + 1] (by assumption) (by assumption) | exact Kept.set (W := w) [(w.heap.size + 1, 0, (.slice q m cap')), (w.heap.size + 1, 1, (.bool false)), (w.heap.size, 0, (.slice p n cap)), (w.heap.size, 1, (.bool true))] [w.heap.size + 1 + 1] (by simp <;> omega) (by first | omega | (simp <;> omega)) (by assumption) | exact Kept.step [(w.heap.size + 1, 0, (.slice q m cap')), (w.heap.size + 1, 1, (.bool false)), (w.heap.size, 0, (.slice p n cap)), (w.heap.size, 1, (.bool true))] [w.heap.size + 1 + 1] (grown_drew _ _) S0)
    (first | (go_at_call 55; refine (SubD_n (Hy.out.grown (by go_split_ands; assumption)) (Hx.out.grown (by go_split_ands; assumption)) (by omega) (Nat.le_of_lt Hc.out)).mono ?_; rintro e w' ⟨v, rfl, h, bd, hg⟩; obtain ⟨pv, nv, rfl⟩ := h.slice) | (go_at_call 53; refine (made_any _ _ _ _ _).mono ?_; rintro e w' ⟨rfl, hg⟩; replace h := h.grown hg (.inl rfl)))
  rename_i hend
  go_wp2_with fail
  exact end_dec (b := false) Try.results15 rfl rfl hend.2.2.2.2.1 hend.2.2.2.2.2.1 hend.2.2.2.2.2.2.2.2 h (by simp at s1 s2 Sq ⊢ <;> omega) (by simp at s1 s2 Sq ⊢ <;> omega) rfl (rfl) bd

set_option maxHeartbeats 2000000 in
theorem Add_ft_ge_d {p q : Option Addr} {n m cap cap' X Y i j : Nat} {w : World} (hx : Dec w (.slice p n cap) X i) (hy : Dec w (.slice q m cap') Y j) (hi : i + j ≤ 1000000) (hc : Y ≤ X) :
    Calls Try.prog 15 #[.agg #[.slice p n cap, .bool false], .agg #[.slice q m cap', .bool true]] w (MadeR w (sg false (X - Y)) (i)) := by
  have Hx := Lib.hid hx
  have Hy := Lib.hid hy
  have Hc := Lib.hid hc
  have S0 : Kept w [(w.heap.size + 1, 0, (.slice q m cap')), (w.heap.size + 1, 1, (.bool true)), (w.heap.size, 0, (.slice p n cap)), (w.heap.size, 1, (.bool false))] [w.heap.size + 1 + 1] (((w.alloc (.cells #[.slice p n cap, .bool false] 28)).alloc (.cells #[.slice q m cap', .bool true] 28)).alloc (.cells #[.slice none 0 0, .bool false] 28)) := (((Kept.start w).box _ _ _ _ rfl).box _ _ _ _ (by simp)).res _ _ _ _ _ (by simp)
  clear hx hy hc
  go_enter Try.func15, Try.ntmps15
  go_wp2_with fail
  refine (CmpD_n (Hx.out.grown (Kept.all _ _ S0)) (Hy.out.grown (Kept.all _ _ S0))).mono ?_
  rintro e w1 ⟨rfl, hg⟩
  have hge := cmpN_ge Hc.out
  generalize cmpN X Y = r at *
  have s1 := hg.size
  have s2 := S0.lt (g := w.heap.size + 1 + 1) (by simp)
  have Sq := S0.size
  replace S0 := Kept.grown _ _ S0 hg
  clear hg
  obtain ⟨c0, c1, c2, c3, r0, r1, r2, r3, G⟩ := id S0
  go_wp2_with fail
  go_region_held3 (fun w' => w'.cell? ⟨w.heap.size + 1, 0, none⟩ = some ((.slice q m cap')) ∧ w'.cell? ⟨w.heap.size + 1, 1, none⟩ = some ((.bool true)) ∧ w'.cell? ⟨w.heap.size, 0, none⟩ = some ((.slice p n cap)) ∧ w'.cell? ⟨w.heap.size, 1, none⟩ = some ((.bool false)) ∧ w'.cell? ⟨w.heap.size + 1 + 1, 0, none⟩ = some (cellOf w' ⟨w.heap.size + 1 + 1, 0, none⟩) ∧ w'.cell? ⟨w.heap.size + 1 + 1, 1, none⟩ = some (cellOf w' ⟨w.heap.size + 1 + 1, 1, none⟩) ∧ w'.frozen? ⟨w.heap.size + 1 + 1, 0, none⟩ = false ∧ w'.frozen? ⟨w.heap.size + 1 + 1, 1, none⟩ = false ∧ w.grownBy w' none) (first | exact Kept.step (W := w) [(w.heap.size + 1, 0, (.slice q m cap')), (w.heap.size + 1, 1, (.bool true)), (w.heap.size, 0, (.slice p n cap)), (w.heap.size, 1, (.bool false))] [w.heap.size + 1 + 1] (by assumption) (by assumption) | exact Kept.set (W := w) [(w.heap.size + 1, 0, (.slice q m cap')), (w.heap.size + 1, 1, (.bool true)), (w.heap.size, 0, (.slice p n cap)), (w.heap.size, 1, (.bool false))] [w.heap.size + 1 + 1] (by simp <;> omega) (by first | omega | (simp <;> omega)) (by assumption) | exact Kept.step [(w.heap.size + 1, 0, (.slice q m cap')), (w.heap.size + 1, 1, (.bool true)), (w.heap.size, 0, (.slice p n cap)), (w.heap.size, 1, (.bool false))] [w.heap.size + 1 + 1] (grown_drew _ _) S0)
    (first | (go_at_call 55; refine (SubD_n (Hx.out.grown (by go_split_ands; assumption)) (Hy.out.grown (by go_split_ands; assumption)) (by omega) Hc.out).mono ?_; rintro e w' ⟨v, rfl, h, bd, hg⟩; obtain ⟨pv, nv, rfl⟩ := h.slice) | (go_at_call 53; refine (made_any _ _ _ _ _).mono ?_; rintro e w' ⟨rfl, hg⟩; replace h := h.grown hg (.inl rfl)))
  rename_i hend
  go_wp2_with fail
  exact end_dec (b := false) Try.results15 rfl rfl hend.2.2.2.2.1 hend.2.2.2.2.2.1 hend.2.2.2.2.2.2.2.2 h (by simp at s1 s2 Sq ⊢ <;> omega) (by simp at s1 s2 Sq ⊢ <;> omega) rfl (rfl) bd

set_option maxHeartbeats 2000000 in
theorem Add_ft_lt_d {p q : Option Addr} {n m cap cap' X Y i j : Nat} {w : World} (hx : Dec w (.slice p n cap) X i) (hy : Dec w (.slice q m cap') Y j) (hi : i + j ≤ 1000000) (hc : X < Y) :
    Calls Try.prog 15 #[.agg #[.slice p n cap, .bool false], .agg #[.slice q m cap', .bool true]] w (MadeR w (sg true (Y - X)) (j)) := by
  have Hx := Lib.hid hx
  have Hy := Lib.hid hy
  have Hc := Lib.hid hc
  have S0 : Kept w [(w.heap.size + 1, 0, (.slice q m cap')), (w.heap.size + 1, 1, (.bool true)), (w.heap.size, 0, (.slice p n cap)), (w.heap.size, 1, (.bool false))] [w.heap.size + 1 + 1] (((w.alloc (.cells #[.slice p n cap, .bool false] 28)).alloc (.cells #[.slice q m cap', .bool true] 28)).alloc (.cells #[.slice none 0 0, .bool false] 28)) := (((Kept.start w).box _ _ _ _ rfl).box _ _ _ _ (by simp)).res _ _ _ _ _ (by simp)
  clear hx hy hc
  go_enter Try.func15, Try.ntmps15
  go_wp2_with fail
  refine (CmpD_n (Hx.out.grown (Kept.all _ _ S0)) (Hy.out.grown (Kept.all _ _ S0))).mono ?_
  rintro e w1 ⟨rfl, hg⟩
  rw [cmpN_lt Hc.out]
  have s1 := hg.size
  have s2 := S0.lt (g := w.heap.size + 1 + 1) (by simp)
  have Sq := S0.size
  replace S0 := Kept.grown _ _ S0 hg
  clear hg
  obtain ⟨c0, c1, c2, c3, r0, r1, r2, r3, G⟩ := id S0
  go_wp2_with fail
  go_region_held3 (fun w' => w'.cell? ⟨w.heap.size + 1, 0, none⟩ = some ((.slice q m cap')) ∧ w'.cell? ⟨w.heap.size + 1, 1, none⟩ = some ((.bool true)) ∧ w'.cell? ⟨w.heap.size, 0, none⟩ = some ((.slice p n cap)) ∧ w'.cell? ⟨w.heap.size, 1, none⟩ = some ((.bool false)) ∧ w'.cell? ⟨w.heap.size + 1 + 1, 0, none⟩ = some (cellOf w' ⟨w.heap.size + 1 + 1, 0, none⟩) ∧ w'.cell? ⟨w.heap.size + 1 + 1, 1, none⟩ = some (cellOf w' ⟨w.heap.size + 1 + 1, 1, none⟩) ∧ w'.frozen? ⟨w.heap.size + 1 + 1, 0, none⟩ = false ∧ w'.frozen? ⟨w.heap.size + 1 + 1, 1, none⟩ = false ∧ w.grownBy w' none) (first | exact Kept.step (W := w) [(w.heap.size + 1, 0, (.slice q m cap')), (w.heap.size + 1, 1, (.bool true)), (w.heap.size, 0, (.slice p n cap)), (w.heap.size, 1, (.bool false))] [w.heap.size + 1 + 1] (by assumption) (by assumption) | exact Kept.set (W := w) [(w.heap.size + 1, 0, (.slice q m cap')), (w.heap.size + 1, 1, (.bool true)), (w.heap.size, 0, (.slice p n cap)), (w.heap.size, 1, (.bool false))] [w.heap.size + 1 + 1] (by simp <;> omega) (by first | omega | (simp <;> omega)) (by assumption) | exact Kept.step [(w.heap.size + 1, 0, (.slice q m cap')), (w.heap.size + 1, 1, (.bool true)), (w.heap.size, 0, (.slice p n cap)), (w.heap.size, 1, (.bool false))] [w.heap.size + 1 + 1] (grown_drew _ _) S0)
    (first | (go_at_call 55; refine (SubD_n (Hy.out.grown (by go_split_ands; assumption)) (Hx.out.grown (by go_split_ands; assumption)) (by omega) (Nat.le_of_lt Hc.out)).mono ?_; rintro e w' ⟨v, rfl, h, bd, hg⟩; obtain ⟨pv, nv, rfl⟩ := h.slice) | (go_at_call 53; refine (made_any _ _ _ _ _).mono ?_; rintro e w' ⟨rfl, hg⟩; replace h := h.grown hg (.inl rfl)))
  rename_i hend
  go_wp2_with fail
  exact end_dec (b := true) Try.results15 rfl rfl hend.2.2.2.2.1 hend.2.2.2.2.2.1 hend.2.2.2.2.2.2.2.2 h (by simp at s1 s2 Sq ⊢ <;> omega) (by simp at s1 s2 Sq ⊢ <;> omega) rfl (rfl) bd

end Go.Proofs.Ytmmmpdpgkjcohaa
