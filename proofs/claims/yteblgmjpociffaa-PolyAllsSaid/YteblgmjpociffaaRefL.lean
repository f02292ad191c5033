/- The reference's whole numbers, one contract a function: made, From, To, Neg, Add, Sub, Mul, Sign, Cmp, Zero. The reference's whole numbers: Mul, Add, Sub, Cmp of numbers, Of, Same. The reference's small numbers: Of. Helpers of the laws of layer 2: Same, keep.Int, of, is. The reference's Zero. -/
import Derived.Test.YteblgmjpociffaaIntA
namespace Go.Proofs.Yteblgmjpociffaa
open Go.RowKit

/-- v is the whole number z in digits to the base 10000, of a size below 2 to the 32 k. -/
def DecI (w : World) (v : Value) (z : Int) (k : Nat) : Prop := ∃ p cap, v = .agg #[.slice p (dig 10000 z.natAbs).length cap, .bool (decide (z < 0))] ∧ Dec w (.slice p (dig 10000 z.natAbs).length cap) z.natAbs k
theorem DecI.grown {w w' : World} {v : Value} {z : Int} {k : Nat} (h : DecI w v z k) (g : w.grownBy w' none) : DecI w' v z k := by
  obtain ⟨p, cap, h1, h2⟩ := h
  exact ⟨p, cap, h1, h2.grown g⟩
theorem DecI.bd {w : World} {v : Value} {z : Int} {k : Nat} (h : DecI w v z k) : Bd z.natAbs k := by
  obtain ⟨p, cap, h1, h2⟩ := h
  exact h2.2
def OwnD (w : World) (B : Nat) (v : Value) (z : Int) : Prop := ∃ p cap, v = .agg #[.slice p (dig 10000 z.natAbs).length cap, .bool (decide (z < 0))] ∧ Own w 3 .i64 B (.slice p (dig 10000 z.natAbs).length cap) (dig 10000 z.natAbs)
theorem OwnD.grown {w w' : World} {B : Nat} {v : Value} {z : Int} (h : OwnD w B v z) (g : w.grownBy w' none) : OwnD w' B v z := by
  obtain ⟨p, cap, h1, h2⟩ := h
  exact ⟨p, cap, h1, h2.grown g (.inl rfl)⟩
theorem OwnD.decI {w : World} {B : Nat} {v : Value} {z : Int} {k : Nat} (h : OwnD w B v z) (hb : Bd z.natAbs k) : DecI w v z k := by
  obtain ⟨p, cap, h1, h2⟩ := h
  exact ⟨p, cap, h1, h2.sl, hb⟩
/-- A whole number was made. -/
def MadeR (w : World) (z : Int) (k : Nat) (e : Ending) (w' : World) : Prop := ∃ v, e = .returned v ∧ OwnD w' w.heap.size v z ∧ Bd z.natAbs k ∧ w.grownBy w' none
theorem MadeR.of {w w' : World} {z y : Int} {k l : Nat} {e : Ending} (h : MadeR w z k e w') (hz : z = y) (hk : k ≤ l) : MadeR w y l e w' := by
  subst hz
  obtain ⟨v, h1, h2, h3, h4⟩ := h
  exact ⟨v, h1, h2, h3.more hk, h4⟩

theorem made_any (b : Bool) (p : Option Addr) (n cap : Nat) (w : World) :
    Calls Try.prog 64 #[.slice p n cap, .bool b] w fun e w' => e = .returned (.agg #[.slice p n cap, .bool (b && decide (0 < n))]) ∧ w.grownBy w' none := by
  go_enter Try.func64, Try.ntmps64
  cases b
  all_goals
    go_wp2_with fail
    simp [bodyPost, results, Try.results64, go_sem]
    exact grown_alloc _ _ _
theorem FromN_n {w : World} {v : Value} {X k : Nat} (hx : Num w v X k) (hk : k ≤ 1000000) : Calls Try.prog 65 #[v] w (MadeD w X k) := by
  have b := hx.bd
  obtain ⟨xs, h1, h2, rfl, h3⟩ := hx
  exact (RFrom h1 h2 (by omega)).mono fun _ _ h => MadeD.of h b

/-- The end of a function that hands back a sign and digits. -/
theorem end_dec {fn : Func} {a : Act} {W w : World} {r g X k B cap n : Nat} {b : Bool} {p : Option Addr} {z : Int} {x y : Value} (hres : fn.results = #[ResultVar.cell r 45]) (hd : a.defers = []) (hr : a.tmps[r]? = some (.pointer (some ⟨g, 0, none⟩)))
    (h0 : (set2 w g (.slice p n cap) (.bool (b && decide (0 < n)))).cell? ⟨g, 0, none⟩ = some x) (h1 : (set2 w g (.slice p n cap) (.bool (b && decide (0 < n)))).cell? ⟨g, 1, none⟩ = some y)
    (hG : W.grownBy (set2 w g (.slice p n cap) (.bool (b && decide (0 < n)))) none)
    (ho : Own w 3 .i64 B (.slice p n cap) (dig 10000 X)) (hB : W.heap.size ≤ B) (hg : g < B) (hn : (dig 10000 X).length = n) (hz : sg b X = z) (hb : Bd X k) :
    bodyPost Try.prog fn (MadeR W z k) .ret a (set2 w g (.slice p n cap) (.bool (b && decide (0 < n)))) := by
  subst hz hn
  refine post_box28 hres hd hr (set2_read0 h0) (set2_read1 h1) ⟨_, rfl, ⟨p, cap, ?_, ?_⟩, by rw [sg_abs]; exact hb, hG⟩
  · rw [sg_neg, sg_abs, dig_some _ _ (by omega)]
  · rw [sg_abs]
    exact ((ho.mono hB).grown (set2_grown _ _ _ _) (own_ne ho hg))
/-- The same of a number that was made so already. -/
theorem end_own {fn : Func} {a : Act} {W w : World} {r g k B : Nat} {z : Int} {u v x y : Value} (hres : fn.results = #[ResultVar.cell r 45]) (hd : a.defers = []) (hr : a.tmps[r]? = some (.pointer (some ⟨g, 0, none⟩)))
    (h0 : (set2 w g u v).cell? ⟨g, 0, none⟩ = some x) (h1 : (set2 w g u v).cell? ⟨g, 1, none⟩ = some y) (hG : W.grownBy (set2 w g u v) none)
    (ho : OwnD w B (.agg #[u, v]) z) (hB : W.heap.size ≤ B) (hg : g < B) (hb : Bd z.natAbs k) : bodyPost Try.prog fn (MadeR W z k) .ret a (set2 w g u v) := by
  refine post_box28 hres hd hr (set2_read0 h0) (set2_read1 h1) ⟨_, rfl, ?_, hb, hG⟩
  obtain ⟨p, cap, h2, h3⟩ := ho
  refine ⟨p, cap, h2, ?_⟩
  simp only [Value.agg.injEq, Array.mk.injEq, List.cons.injEq, and_true] at h2
  obtain ⟨rfl, -⟩ := h2
  exact ((h3.mono hB).grown (set2_grown _ _ _ _) (own_ne h3 hg))

set_option maxHeartbeats 1000000 in
theorem From_r {v : Value} {z : Int} {k : Nat} {w : World} (hx : IntV w v z k) (hk : k ≤ 1000000) :
    Calls Try.prog 27 #[v] w (MadeR w z k) := by
  obtain ⟨b, s, X, rfl, hx, rfl⟩ := hx
  obtain ⟨p, n, cap, rfl⟩ := hx.slice
  have Hx := Lib.hid hx
  clear hx
  have S0 : Kept w [(w.heap.size, 0, .bool b), (w.heap.size, 1, .slice p n cap)] [w.heap.size + 1] ((w.alloc (.cells #[.bool b, .slice p n cap] 36)).alloc (.cells #[.slice none 0 0, .bool false] 45)) := ((Kept.start w).box _ _ _ _ rfl).res _ _ _ _ _ (by simp)
  go_enter Try.func27, Try.ntmps27
  go_wp2_with fail
  go_region_held3 (fun w' => w'.cell? ⟨w.heap.size, 0, none⟩ = some (.bool b) ∧ w'.cell? ⟨w.heap.size, 1, none⟩ = some (.slice p n cap) ∧ w'.cell? ⟨w.heap.size + 1, 0, none⟩ = some (cellOf w' ⟨w.heap.size + 1, 0, none⟩) ∧ w'.cell? ⟨w.heap.size + 1, 1, none⟩ = some (cellOf w' ⟨w.heap.size + 1, 1, none⟩) ∧ w'.frozen? ⟨w.heap.size + 1, 0, none⟩ = false ∧ w'.frozen? ⟨w.heap.size + 1, 1, none⟩ = false ∧ w.grownBy w' none) (first | exact Kept.step (W := w) [(w.heap.size, 0, .bool b), (w.heap.size, 1, .slice p n cap)] [w.heap.size + 1] (by assumption) (by assumption) | exact Kept.set (W := w) [(w.heap.size, 0, .bool b), (w.heap.size, 1, .slice p n cap)] [w.heap.size + 1] (by simp <;> omega) (by first | omega | (simp <;> omega)) (by assumption) | exact Kept.step [(w.heap.size, 0, .bool b), (w.heap.size, 1, .slice p n cap)] [w.heap.size + 1] (grown_drew _ _) S0)
    (first | (go_at_call 65; refine (FromN_n (Hx.out.grown (by go_split_ands; assumption)) hk).mono ?_; rintro e w' ⟨v, rfl, h, bd, hg⟩; obtain ⟨pv, nv, rfl⟩ := h.slice) | (go_at_call 64; refine (made_any _ _ _ _ _).mono ?_; rintro e w' ⟨rfl, hg⟩; replace h := h.grown hg (.inl rfl)))
  rename_i hend
  go_wp2_with fail
  exact end_dec Try.results27 rfl rfl hend.2.2.1 hend.2.2.2.1 hend.2.2.2.2.2.2 h (by first | omega | (simp <;> omega)) (by first | omega | (simp <;> omega)) rfl rfl bd

set_option maxHeartbeats 1000000 in
theorem Neg_r {v : Value} {z : Int} {k : Nat} {w : World} (hx : DecI w v z k) :
    Calls Try.prog 61 #[v] w fun e w' => ∃ v, e = .returned v ∧ DecI w' v (-z) k ∧ w.grownBy w' none := by
  have bx := hx.bd
  obtain ⟨p, cap, rfl, hx⟩ := hx
  have Hx := Lib.hid hx
  clear hx
  clear bx
  have S0 : Kept w [(w.heap.size, 0, .slice p (dig 10000 z.natAbs).length cap), (w.heap.size, 1, .bool (decide (z < 0)))] [w.heap.size + 1] ((w.alloc (.cells #[.slice p (dig 10000 z.natAbs).length cap, .bool (decide (z < 0))] 45)).alloc (.cells #[.slice none 0 0, .bool false] 45)) := ((Kept.start w).box _ _ _ _ rfl).res _ _ _ _ _ (by simp)
  go_enter Try.func61, Try.ntmps61
  go_wp2_with fail
  refine (made_any _ _ _ _ _).mono ?_
  rintro e w1 ⟨rfl, hg⟩
  replace S0 := Kept.grown _ _ S0 hg
  clear hg
  obtain ⟨c0, c1, r0, r1, f0, f1, G⟩ := id S0
  go_wp2_with fail
  have G2 := Kept.all _ _ (Kept.set (g := w.heap.size + 1) (u := .slice p (dig 10000 z.natAbs).length cap) (v := .bool (!decide (z < 0) && decide (0 < (dig 10000 z.natAbs).length))) _ _ (by simp <;> omega) (by omega) S0)
  refine post_box28 Try.results61 rfl rfl (set2_fst r0) (set2_snd r1) ⟨_, rfl, ⟨p, cap, ?_, ?_⟩, G2⟩
  · rw [Int.natAbs_neg, dig_some _ _ (by omega)]
    congr 5
    rw [Bool.eq_iff_iff]
    simp
    omega
  · rw [Int.natAbs_neg]
    exact Hx.out.grown G2
theorem Sign_r {v : Value} {z : Int} {k : Nat} {w : World} (hx : DecI w v z k) :
    Calls Try.prog 91 #[v] w fun e w' => e = .returned (.int .i64 (cmpI z 0)) ∧ w.grownBy w' none := by
  have bx := hx.bd
  obtain ⟨p, cap, rfl, hx⟩ := hx
  have Hx := Lib.hid hx
  clear hx
  clear bx Hx
  have hl := dig_len_zero (b := 10000) (by omega) (n := z.natAbs)
  generalize (dig 10000 z.natAbs).length = l at *
  by_cases h0 : z = 0
  · obtain rfl : l = 0 := by omega
    subst h0
    go_enter Try.func91, Try.ntmps91
    go_wp2_with fail
    go_ret
    exact ⟨rfl, grown_alloc _ _ _⟩
  · have hl' : (l : Int) ≠ 0 := by omega
    by_cases hn : z < 0
    · rw [cmpI, if_pos hn, decide_eq_true hn]
      clear hl
      go_enter Try.func91, Try.ntmps91
      go_wp2_with fail
      go_ret
      exact ⟨rfl, grown_alloc _ _ _⟩
    · rw [cmpI, if_neg hn, if_neg h0, decide_eq_false hn]
      clear hl
      go_enter Try.func91, Try.ntmps91
      go_wp2_with fail
      go_ret
      exact ⟨rfl, grown_alloc _ _ _⟩

set_option maxHeartbeats 2000000 in
theorem Mul_d {b b' : Bool} {p q : Option Addr} {n m cap cap' X Y i j : Nat} {w : World} (hx : Dec w (.slice p n cap) X i) (hy : Dec w (.slice q m cap') Y j) (hi : i + j ≤ 1000000) :
    Calls Try.prog 79 #[.agg #[.slice p n cap, .bool b], .agg #[.slice q m cap', .bool b']] w (MadeR w (sg b X * sg b' Y) (i + j)) := by
  have Hx := Lib.hid hx
  have Hy := Lib.hid hy
  have S0 : Kept w [(w.heap.size + 1, 0, (.slice q m cap')), (w.heap.size + 1, 1, (.bool b')), (w.heap.size, 0, (.slice p n cap)), (w.heap.size, 1, (.bool b))] [w.heap.size + 1 + 1] (((w.alloc (.cells #[.slice p n cap, .bool b] 45)).alloc (.cells #[.slice q m cap', .bool b'] 45)).alloc (.cells #[.slice none 0 0, .bool false] 45)) := (((Kept.start w).box _ _ _ _ rfl).box _ _ _ _ (by simp)).res _ _ _ _ _ (by simp)
  clear hx hy
  go_enter Try.func79, Try.ntmps79
  go_wp2_with fail
  go_region_held3 (fun w' => w'.cell? ⟨w.heap.size + 1, 0, none⟩ = some ((.slice q m cap')) ∧ w'.cell? ⟨w.heap.size + 1, 1, none⟩ = some ((.bool b')) ∧ w'.cell? ⟨w.heap.size, 0, none⟩ = some ((.slice p n cap)) ∧ w'.cell? ⟨w.heap.size, 1, none⟩ = some ((.bool b)) ∧ w'.cell? ⟨w.heap.size + 1 + 1, 0, none⟩ = some (cellOf w' ⟨w.heap.size + 1 + 1, 0, none⟩) ∧ w'.cell? ⟨w.heap.size + 1 + 1, 1, none⟩ = some (cellOf w' ⟨w.heap.size + 1 + 1, 1, none⟩) ∧ w'.frozen? ⟨w.heap.size + 1 + 1, 0, none⟩ = false ∧ w'.frozen? ⟨w.heap.size + 1 + 1, 1, none⟩ = false ∧ w.grownBy w' none) (first | exact Kept.step (W := w) [(w.heap.size + 1, 0, (.slice q m cap')), (w.heap.size + 1, 1, (.bool b')), (w.heap.size, 0, (.slice p n cap)), (w.heap.size, 1, (.bool b))] [w.heap.size + 1 + 1] (by assumption) (by assumption) | exact Kept.set (W := w) [(w.heap.size + 1, 0, (.slice q m cap')), (w.heap.size + 1, 1, (.bool b')), (w.heap.size, 0, (.slice p n cap)), (w.heap.size, 1, (.bool b))] [w.heap.size + 1 + 1] (by simp <;> omega) (by first | omega | (simp <;> omega)) (by assumption) | exact Kept.step [(w.heap.size + 1, 0, (.slice q m cap')), (w.heap.size + 1, 1, (.bool b')), (w.heap.size, 0, (.slice p n cap)), (w.heap.size, 1, (.bool b))] [w.heap.size + 1 + 1] (grown_drew _ _) S0)
    (first | (go_at_call 96; refine (MulD_n (Hx.out.grown (by go_split_ands; assumption)) (Hy.out.grown (by go_split_ands; assumption)) (by omega)).mono ?_; rintro e w' ⟨v, rfl, h, bd, hg⟩; obtain ⟨pv, nv, rfl⟩ := h.slice) | (go_at_call 64; refine (made_any _ _ _ _ _).mono ?_; rintro e w' ⟨rfl, hg⟩; replace h := h.grown hg (.inl rfl)))
  rename_i hend
  go_wp2_with fail
  exact end_dec Try.results79 rfl rfl hend.2.2.2.2.1 hend.2.2.2.2.2.1 hend.2.2.2.2.2.2.2.2 h (by first | omega | (simp <;> omega)) (by first | omega | (simp <;> omega)) rfl (sg_mul _ _ _ _) bd

set_option maxHeartbeats 2000000 in
theorem Add_same_d {b : Bool} {p q : Option Addr} {n m cap cap' X Y i j : Nat} {w : World} (hx : Dec w (.slice p n cap) X i) (hy : Dec w (.slice q m cap') Y j) (hi : i + j ≤ 1000000) :
    Calls Try.prog 78 #[.agg #[.slice p n cap, .bool b], .agg #[.slice q m cap', .bool b]] w (MadeR w (sg b X + sg b Y) (i + j + 1)) := by
  have Hx := Lib.hid hx
  have Hy := Lib.hid hy
  have S0 : Kept w [(w.heap.size + 1, 0, (.slice q m cap')), (w.heap.size + 1, 1, (.bool b)), (w.heap.size, 0, (.slice p n cap)), (w.heap.size, 1, (.bool b))] [w.heap.size + 1 + 1] (((w.alloc (.cells #[.slice p n cap, .bool b] 45)).alloc (.cells #[.slice q m cap', .bool b] 45)).alloc (.cells #[.slice none 0 0, .bool false] 45)) := (((Kept.start w).box _ _ _ _ rfl).box _ _ _ _ (by simp)).res _ _ _ _ _ (by simp)
  clear hx hy
  go_enter Try.func78, Try.ntmps78
  obtain ⟨c0, c1, c2, c3, r0, r1, r2, r3, G⟩ := id S0
  go_wp2_with fail
  go_region_held3 (fun w' => w'.cell? ⟨w.heap.size + 1, 0, none⟩ = some ((.slice q m cap')) ∧ w'.cell? ⟨w.heap.size + 1, 1, none⟩ = some ((.bool b)) ∧ w'.cell? ⟨w.heap.size, 0, none⟩ = some ((.slice p n cap)) ∧ w'.cell? ⟨w.heap.size, 1, none⟩ = some ((.bool b)) ∧ w'.cell? ⟨w.heap.size + 1 + 1, 0, none⟩ = some (cellOf w' ⟨w.heap.size + 1 + 1, 0, none⟩) ∧ w'.cell? ⟨w.heap.size + 1 + 1, 1, none⟩ = some (cellOf w' ⟨w.heap.size + 1 + 1, 1, none⟩) ∧ w'.frozen? ⟨w.heap.size + 1 + 1, 0, none⟩ = false ∧ w'.frozen? ⟨w.heap.size + 1 + 1, 1, none⟩ = false ∧ w.grownBy w' none) (first | exact Kept.step (W := w) [(w.heap.size + 1, 0, (.slice q m cap')), (w.heap.size + 1, 1, (.bool b)), (w.heap.size, 0, (.slice p n cap)), (w.heap.size, 1, (.bool b))] [w.heap.size + 1 + 1] (by assumption) (by assumption) | exact Kept.set (W := w) [(w.heap.size + 1, 0, (.slice q m cap')), (w.heap.size + 1, 1, (.bool b)), (w.heap.size, 0, (.slice p n cap)), (w.heap.size, 1, (.bool b))] [w.heap.size + 1 + 1] (by simp <;> omega) (by first | omega | (simp <;> omega)) (by assumption) | exact Kept.step [(w.heap.size + 1, 0, (.slice q m cap')), (w.heap.size + 1, 1, (.bool b)), (w.heap.size, 0, (.slice p n cap)), (w.heap.size, 1, (.bool b))] [w.heap.size + 1 + 1] (grown_drew _ _) S0)
    (first | (go_at_call 93; refine (AddD_n (Hx.out.grown (by go_split_ands; assumption)) (Hy.out.grown (by go_split_ands; assumption)) (by omega)).mono ?_; rintro e w' ⟨v, rfl, h, bd, hg⟩; obtain ⟨pv, nv, rfl⟩ := h.slice) | (go_at_call 64; refine (made_any _ _ _ _ _).mono ?_; rintro e w' ⟨rfl, hg⟩; replace h := h.grown hg (.inl rfl)))
  rename_i hend
  go_wp2_with fail
  exact end_dec Try.results78 rfl rfl hend.2.2.2.2.1 hend.2.2.2.2.2.1 hend.2.2.2.2.2.2.2.2 h (by first | omega | (simp <;> omega)) (by first | omega | (simp <;> omega)) rfl (sg_add _ _ _) bd

set_option maxHeartbeats 2000000 in
theorem Add_tf_ge_d {p q : Option Addr} {n m cap cap' X Y i j : Nat} {w : World} (hx : Dec w (.slice p n cap) X i) (hy : Dec w (.slice q m cap') Y j) (hi : i + j ≤ 1000000) (hc : Y ≤ X) :
    Calls Try.prog 78 #[.agg #[.slice p n cap, .bool true], .agg #[.slice q m cap', .bool false]] w (MadeR w (sg true (X - Y)) (i)) := by
  have Hx := Lib.hid hx
  have Hy := Lib.hid hy
  have Hc := Lib.hid hc
  have S0 : Kept w [(w.heap.size + 1, 0, (.slice q m cap')), (w.heap.size + 1, 1, (.bool false)), (w.heap.size, 0, (.slice p n cap)), (w.heap.size, 1, (.bool true))] [w.heap.size + 1 + 1] (((w.alloc (.cells #[.slice p n cap, .bool true] 45)).alloc (.cells #[.slice q m cap', .bool false] 45)).alloc (.cells #[.slice none 0 0, .bool false] 45)) := (((Kept.start w).box _ _ _ _ rfl).box _ _ _ _ (by simp)).res _ _ _ _ _ (by simp)
  clear hx hy hc
  go_enter Try.func78, Try.ntmps78
  go_wp2_with fail
  refine (CmpD_n (Hx.out.grown (Kept.all _ _ S0)) (Hy.out.grown (Kept.all _ _ S0))).mono ?_
  rintro e w1 ⟨rfl, hg⟩
  have hge := cmpN_ge Hc.out
  generalize cmpN X Y = r at *
  have s1 := hg.size
  have s2 := S0.lt (g := w.heap.size + 1 + 1) (by simp)
  have Sq := S0.size
  replace S0 := Kept.grown _ _ S0 hg
  clear hg
  obtain ⟨c0, c1, c2, c3, r0, r1, r2, r3, G⟩ := id S0
  go_wp2_with fail
  go_region_held3 (fun w' => w'.cell? ⟨w.heap.size + 1, 0, none⟩ = some ((.slice q m cap')) ∧ w'.cell? ⟨w.heap.size + 1, 1, none⟩ = some ((.bool false)) ∧ w'.cell? ⟨w.heap.size, 0, none⟩ = some ((.slice p n cap)) ∧ w'.cell? ⟨w.heap.size, 1, none⟩ = some ((.bool true)) ∧ w'.cell? ⟨w.heap.size + 1 + 1, 0, none⟩ = some (cellOf w' ⟨w.heap.size + 1 + 1, 0, none⟩) ∧ w'.cell? ⟨w.heap.size + 1 + 1, 1, none⟩ = some (cellOf w' ⟨w.heap.size + 1 + 1, 1, none⟩) ∧ w'.frozen? ⟨w.heap.size + 1 + 1, 0, none⟩ = false ∧ w'.frozen? ⟨w.heap.size + 1 + 1, 1, none⟩ = false ∧ w.grownBy w' none) (first | exact Kept.step (W := w) [(w.heap.size + 1, 0, (.slice q m cap')), (w.heap.size + 1, 1, (.bool false)), (w.heap.size, 0, (.slice p n cap)), (w.heap.size, 1, (.bool true))] [w.heap.size + 1 + 1] (by assumption) (by assumption) | exact Kept.set (W := w) [(w.heap.size + 1, 0, (.slice q m cap')), (w.heap.size + 1, 1, (.bool false)), (w.heap.size, 0, (.slice p n cap)), (w.heap.size, 1, (.bool true))] [w.heap.size + 1 + 1] (by simp <;> omega) (by first | omega | (simp <;> omega)) (by assumption) | exact Kept.step [(w.heap.size + 1, 0, (.slice q m cap')), (w.heap.size + 1, 1, (.bool false)), (w.heap.size, 0, (.slice p n cap)), (w.heap.size, 1, (.bool true))] [w.heap.size + 1 + 1] (grown_drew _ _) S0)
    (first | (go_at_call 95; refine (SubD_n (Hx.out.grown (by go_split_ands; assumption)) (Hy.out.grown (by go_split_ands; assumption)) (by omega) Hc.out).mono ?_; rintro e w' ⟨v, rfl, h, bd, hg⟩; obtain ⟨pv, nv, rfl⟩ := h.slice) | (go_at_call 64; refine (made_any _ _ _ _ _).mono ?_; rintro e w' ⟨rfl, hg⟩; replace h := h.grown hg (.inl rfl)))
  rename_i hend
  go_wp2_with fail
  exact end_dec (b := true) Try.results78 rfl rfl hend.2.2.2.2.1 hend.2.2.2.2.2.1 hend.2.2.2.2.2.2.2.2 h (by simp at s1 s2 Sq ⊢ <;> omega) (by simp at s1 s2 Sq ⊢ <;> omega) rfl (rfl) bd

set_option maxHeartbeats 2000000 in
theorem Add_tf_lt_d {p q : Option Addr} {n m cap cap' X Y i j : Nat} {w : World} (hx : Dec w (.slice p n cap) X i) (hy : Dec w (.slice q m cap') Y j) (hi : i + j ≤ 1000000) (hc : X < Y) :
    Calls Try.prog 78 #[.agg #[.slice p n cap, .bool true], .agg #[.slice q m cap', .bool false]] w (MadeR w (sg false (Y - X)) (j)) := by
  have Hx := Lib.hid hx
  have Hy := Lib.hid hy
  have Hc := Lib.hid hc
  have S0 : Kept w [(w.heap.size + 1, 0, (.slice q m cap')), (w.heap.size + 1, 1, (.bool false)), (w.heap.size, 0, (.slice p n cap)), (w.heap.size, 1, (.bool true))] [w.heap.size + 1 + 1] (((w.alloc (.cells #[.slice p n cap, .bool true] 45)).alloc (.cells #[.slice q m cap', .bool false] 45)).alloc (.cells #[.slice none 0 0, .bool false] 45)) := (((Kept.start w).box _ _ _ _ rfl).box _ _ _ _ (by simp)).res _ _ _ _ _ (by simp)
  clear hx hy hc
  go_enter Try.func78, Try.ntmps78
  go_wp2_with fail
  refine (CmpD_n (Hx.out.grown (Kept.all _ _ S0)) (Hy.out.grown (Kept.all _ _ S0))).mono ?_
  rintro e w1 ⟨rfl, hg⟩
  rw [cmpN_lt Hc.out]
  have s1 := hg.size
  have s2 := S0.lt (g := w.heap.size + 1 + 1) (by simp)
  have Sq := S0.size
  replace S0 := Kept.grown _ _ S0 hg
  clear hg
  obtain ⟨c0, c1, c2, c3, r0, r1, r2, r3, G⟩ := id S0
  go_wp2_with fail
  go_region_held3 (fun w' => w'.cell? ⟨w.heap.size + 1, 0, none⟩ = some ((.slice q m cap')) ∧ w'.cell? ⟨w.heap.size + 1, 1, none⟩ = some ((.bool false)) ∧ w'.cell? ⟨w.heap.size, 0, none⟩ = some ((.slice p n cap)) ∧ w'.cell? ⟨w.heap.size, 1, none⟩ = some ((.bool true)) ∧ w'.cell? ⟨w.heap.size + 1 + 1, 0, none⟩ = some (cellOf w' ⟨w.heap.size + 1 + 1, 0, none⟩) ∧ w'.cell? ⟨w.heap.size + 1 + 1, 1, none⟩ = some (cellOf w' ⟨w.heap.size + 1 + 1, 1, none⟩) ∧ w'.frozen? ⟨w.heap.size + 1 + 1, 0, none⟩ = false ∧ w'.frozen? ⟨w.heap.size + 1 + 1, 1, none⟩ = false ∧ w.grownBy w' none) (first | exact Kept.step (W := w) [(w.heap.size + 1, 0, (.slice q m cap')), (w.heap.size + 1, 1, (.bool false)), (w.heap.size, 0, (.slice p n cap)), (w.heap.size, 1, (.bool true))] [w.heap.size + 1 + 1] (by assumption) (by assumption) | exact Kept.set (W := w) [(w.heap.size + 1, 0, (.slice q m cap')), (w.heap.size + 1, 1, (.bool false)), (w.heap.size, 0, (.slice p n cap)), (w.heap.size, 1, (.bool true))] [w.heap.size + 1 + 1] (by simp <;> omega) (by first | omega | (simp <;> omega)) (by assumption) | exact Kept.step [(w.heap.size + 1, 0, (.slice q m cap')), (w.heap.size + 1, 1, (.bool false)), (w.heap.size, 0, (.slice p n cap)), (w.heap.size, 1, (.bool true))] [w.heap.size + 1 + 1] (grown_drew _ _) S0)
    (first | (go_at_call 95; refine (SubD_n (Hy.out.grown (by go_split_ands; assumption)) (Hx.out.grown (by go_split_ands; assumption)) (by omega) (Nat.le_of_lt Hc.out)).mono ?_; rintro e w' ⟨v, rfl, h, bd, hg⟩; obtain ⟨pv, nv, rfl⟩ := h.slice) | (go_at_call 64; refine (made_any _ _ _ _ _).mono ?_; rintro e w' ⟨rfl, hg⟩; replace h := h.grown hg (.inl rfl)))
  rename_i hend
  go_wp2_with fail
  exact end_dec (b := false) Try.results78 rfl rfl hend.2.2.2.2.1 hend.2.2.2.2.2.1 hend.2.2.2.2.2.2.2.2 h (by simp at s1 s2 Sq ⊢ <;> omega) (by simp at s1 s2 Sq ⊢ <;> omega) rfl (rfl) bd

set_option maxHeartbeats 2000000 in
theorem Add_ft_ge_d {p q : Option Addr} {n m cap cap' X Y i j : Nat} {w : World} (hx : Dec w (.slice p n cap) X i) (hy : Dec w (.slice q m cap') Y j) (hi : i + j ≤ 1000000) (hc : Y ≤ X) :
    Calls Try.prog 78 #[.agg #[.slice p n cap, .bool false], .agg #[.slice q m cap', .bool true]] w (MadeR w (sg false (X - Y)) (i)) := by
  have Hx := Lib.hid hx
  have Hy := Lib.hid hy
  have Hc := Lib.hid hc
  have S0 : Kept w [(w.heap.size + 1, 0, (.slice q m cap')), (w.heap.size + 1, 1, (.bool true)), (w.heap.size, 0, (.slice p n cap)), (w.heap.size, 1, (.bool false))] [w.heap.size + 1 + 1] (((w.alloc (.cells #[.slice p n cap, .bool false] 45)).alloc (.cells #[.slice q m cap', .bool true] 45)).alloc (.cells #[.slice none 0 0, .bool false] 45)) := (((Kept.start w).box _ _ _ _ rfl).box _ _ _ _ (by simp)).res _ _ _ _ _ (by simp)
  clear hx hy hc
  go_enter Try.func78, Try.ntmps78
  go_wp2_with fail
  refine (CmpD_n (Hx.out.grown (Kept.all _ _ S0)) (Hy.out.grown (Kept.all _ _ S0))).mono ?_
  rintro e w1 ⟨rfl, hg⟩
  have hge := cmpN_ge Hc.out
  generalize cmpN X Y = r at *
  have s1 := hg.size
  have s2 := S0.lt (g := w.heap.size + 1 + 1) (by simp)
  have Sq := S0.size
  replace S0 := Kept.grown _ _ S0 hg
  clear hg
  obtain ⟨c0, c1, c2, c3, r0, r1, r2, r3, G⟩ := id S0
  go_wp2_with fail
  go_region_held3 (fun w' => w'.cell? ⟨w.heap.size + 1, 0, none⟩ = some ((.slice q m cap')) ∧ w'.cell? ⟨w.heap.size + 1, 1, none⟩ = some ((.bool true)) ∧ w'.cell? ⟨w.heap.size, 0, none⟩ = some ((.slice p n cap)) ∧ w'.cell? ⟨w.heap.size, 1, none⟩ = some ((.bool false)) ∧ w'.cell? ⟨w.heap.size + 1 + 1, 0, none⟩ = some (cellOf w' ⟨w.heap.size + 1 + 1, 0, none⟩) ∧ w'.cell? ⟨w.heap.size + 1 + 1, 1, none⟩ = some (cellOf w' ⟨w.heap.size + 1 + 1, 1, none⟩) ∧ w'.frozen? ⟨w.heap.size + 1 + 1, 0, none⟩ = false ∧ w'.frozen? ⟨w.heap.size + 1 + 1, 1, none⟩ = false ∧ w.grownBy w' none) (first | exact Kept.step (W := w) [(w.heap.size + 1, 0, (.slice q m cap')), (w.heap.size + 1, 1, (.bool true)), (w.heap.size, 0, (.slice p n cap)), (w.heap.size, 1, (.bool false))] [w.heap.size + 1 + 1] (by assumption) (by assumption) | exact Kept.set (W := w) [(w.heap.size + 1, 0, (.slice q m cap')), (w.heap.size + 1, 1, (.bool true)), (w.heap.size, 0, (.slice p n cap)), (w.heap.size, 1, (.bool false))] [w.heap.size + 1 + 1] (by simp <;> omega) (by first | omega | (simp <;> omega)) (by assumption) | exact Kept.step [(w.heap.size + 1, 0, (.slice q m cap')), (w.heap.size + 1, 1, (.bool true)), (w.heap.size, 0, (.slice p n cap)), (w.heap.size, 1, (.bool false))] [w.heap.size + 1 + 1] (grown_drew _ _) S0)
    (first | (go_at_call 95; refine (SubD_n (Hx.out.grown (by go_split_ands; assumption)) (Hy.out.grown (by go_split_ands; assumption)) (by omega) Hc.out).mono ?_; rintro e w' ⟨v, rfl, h, bd, hg⟩; obtain ⟨pv, nv, rfl⟩ := h.slice) | (go_at_call 64; refine (made_any _ _ _ _ _).mono ?_; rintro e w' ⟨rfl, hg⟩; replace h := h.grown hg (.inl rfl)))
  rename_i hend
  go_wp2_with fail
  exact end_dec (b := false) Try.results78 rfl rfl hend.2.2.2.2.1 hend.2.2.2.2.2.1 hend.2.2.2.2.2.2.2.2 h (by simp at s1 s2 Sq ⊢ <;> omega) (by simp at s1 s2 Sq ⊢ <;> omega) rfl (rfl) bd

set_option maxHeartbeats 2000000 in
theorem Add_ft_lt_d {p q : Option Addr} {n m cap cap' X Y i j : Nat} {w : World} (hx : Dec w (.slice p n cap) X i) (hy : Dec w (.slice q m cap') Y j) (hi : i + j ≤ 1000000) (hc : X < Y) :
    Calls Try.prog 78 #[.agg #[.slice p n cap, .bool false], .agg #[.slice q m cap', .bool true]] w (MadeR w (sg true (Y - X)) (j)) := by
  have Hx := Lib.hid hx
  have Hy := Lib.hid hy
  have Hc := Lib.hid hc
  have S0 : Kept w [(w.heap.size + 1, 0, (.slice q m cap')), (w.heap.size + 1, 1, (.bool true)), (w.heap.size, 0, (.slice p n cap)), (w.heap.size, 1, (.bool false))] [w.heap.size + 1 + 1] (((w.alloc (.cells #[.slice p n cap, .bool false] 45)).alloc (.cells #[.slice q m cap', .bool true] 45)).alloc (.cells #[.slice none 0 0, .bool false] 45)) := (((Kept.start w).box _ _ _ _ rfl).box _ _ _ _ (by simp)).res _ _ _ _ _ (by simp)
  clear hx hy hc
  go_enter Try.func78, Try.ntmps78
  go_wp2_with fail
  refine (CmpD_n (Hx.out.grown (Kept.all _ _ S0)) (Hy.out.grown (Kept.all _ _ S0))).mono ?_
  rintro e w1 ⟨rfl, hg⟩
  rw [cmpN_lt Hc.out]
  have s1 := hg.size
  have s2 := S0.lt (g := w.heap.size + 1 + 1) (by simp)
  have Sq := S0.size
  replace S0 := Kept.grown _ _ S0 hg
  clear hg
  obtain ⟨c0, c1, c2, c3, r0, r1, r2, r3, G⟩ := id S0
  go_wp2_with fail
  go_region_held3 (fun w' => w'.cell? ⟨w.heap.size + 1, 0, none⟩ = some ((.slice q m cap')) ∧ w'.cell? ⟨w.heap.size + 1, 1, none⟩ = some ((.bool true)) ∧ w'.cell? ⟨w.heap.size, 0, none⟩ = some ((.slice p n cap)) ∧ w'.cell? ⟨w.heap.size, 1, none⟩ = some ((.bool false)) ∧ w'.cell? ⟨w.heap.size + 1 + 1, 0, none⟩ = some (cellOf w' ⟨w.heap.size + 1 + 1, 0, none⟩) ∧ w'.cell? ⟨w.heap.size + 1 + 1, 1, none⟩ = some (cellOf w' ⟨w.heap.size + 1 + 1, 1, none⟩) ∧ w'.frozen? ⟨w.heap.size + 1 + 1, 0, none⟩ = false ∧ w'.frozen? ⟨w.heap.size + 1 + 1, 1, none⟩ = false ∧ w.grownBy w' none) (first | exact Kept.step (W := w) [(w.heap.size + 1, 0, (.slice q m cap')), (w.heap.size + 1, 1, (.bool true)), (w.heap.size, 0, (.slice p n cap)), (w.heap.size, 1, (.bool false))] [w.heap.size + 1 + 1] (by assumption) (by assumption) | exact Kept.set (W := w) [(w.heap.size + 1, 0, (.slice q m cap')), (w.heap.size + 1, 1, (.bool true)), (w.heap.size, 0, (.slice p n cap)), (w.heap.size, 1, (.bool false))] [w.heap.size + 1 + 1] (by simp <;> omega) (by first | omega | (simp <;> omega)) (by assumption) | exact Kept.step [(w.heap.size + 1, 0, (.slice q m cap')), (w.heap.size + 1, 1, (.bool true)), (w.heap.size, 0, (.slice p n cap)), (w.heap.size, 1, (.bool false))] [w.heap.size + 1 + 1] (grown_drew _ _) S0)
    (first | (go_at_call 95; refine (SubD_n (Hy.out.grown (by go_split_ands; assumption)) (Hx.out.grown (by go_split_ands; assumption)) (by omega) (Nat.le_of_lt Hc.out)).mono ?_; rintro e w' ⟨v, rfl, h, bd, hg⟩; obtain ⟨pv, nv, rfl⟩ := h.slice) | (go_at_call 64; refine (made_any _ _ _ _ _).mono ?_; rintro e w' ⟨rfl, hg⟩; replace h := h.grown hg (.inl rfl)))
  rename_i hend
  go_wp2_with fail
  exact end_dec (b := true) Try.results78 rfl rfl hend.2.2.2.2.1 hend.2.2.2.2.2.1 hend.2.2.2.2.2.2.2.2 h (by simp at s1 s2 Sq ⊢ <;> omega) (by simp at s1 s2 Sq ⊢ <;> omega) rfl (rfl) bd

end Go.Proofs.Yteblgmjpociffaa

namespace Go.Proofs.Yteblgmjpociffaa
open Go.RowKit

theorem DecI.open {w : World} {v : Value} {z : Int} {k : Nat} (h : DecI w v z k) : ∃ (b : Bool) (p : Option Addr) (n cap X : Nat), v = .agg #[.slice p n cap, .bool b] ∧ Dec w (.slice p n cap) X k ∧ z = sg b X := by
  obtain ⟨p, cap, h1, h2⟩ := h
  exact ⟨_, p, _, cap, _, h1, h2, (sg_self z).symm⟩
theorem Mul_r {v u : Value} {z y : Int} {i j : Nat} {w : World} (hx : DecI w v z i) (hy : DecI w u y j) (hi : i + j ≤ 1000000) :
    Calls Try.prog 79 #[v, u] w (MadeR w (z * y) (i + j)) := by
  obtain ⟨b, p, n, cap, X, rfl, dx, rfl⟩ := hx.open
  obtain ⟨b', q, m, cap', Y, rfl, dy, rfl⟩ := hy.open
  exact Mul_d dx dy hi
theorem Add_r {v u : Value} {z y : Int} {i j : Nat} {w : World} (hx : DecI w v z i) (hy : DecI w u y j) (hi : i + j ≤ 1000000) :
    Calls Try.prog 78 #[v, u] w (MadeR w (z + y) (i + j + 1)) := by
  obtain ⟨b, p, n, cap, X, rfl, dx, rfl⟩ := hx.open
  obtain ⟨b', q, m, cap', Y, rfl, dy, rfl⟩ := hy.open
  cases b <;> cases b'
  · exact Add_same_d dx dy hi
  · by_cases hc : Y ≤ X
    · exact (Add_ft_ge_d dx dy hi hc).mono fun _ _ h => h.of (by simp [sg]; omega) (by omega)
    · exact (Add_ft_lt_d dx dy hi (by omega)).mono fun _ _ h => h.of (by simp [sg]; omega) (by omega)
  · by_cases hc : Y ≤ X
    · exact (Add_tf_ge_d dx dy hi hc).mono fun _ _ h => h.of (by simp [sg]; omega) (by omega)
    · exact (Add_tf_lt_d dx dy hi (by omega)).mono fun _ _ h => h.of (by simp [sg]; omega) (by omega)
  · exact Add_same_d dx dy hi

set_option maxHeartbeats 2000000 in
theorem Sub_r {v u : Value} {z y : Int} {i j : Nat} {w : World} (hx : DecI w v z i) (hy : DecI w u y j) (hi : i + j ≤ 1000000) :
    Calls Try.prog 92 #[v, u] w (MadeR w (z - y) (i + j + 1)) := by
  have Vx := Lib.hid hx
  have Vy := Lib.hid hy
  obtain ⟨b, p, n, cap, X, rfl, hx', rfl⟩ := hx.open
  obtain ⟨b', q, m, cap', Y, rfl, hy', rfl⟩ := hy.open
  clear hx' hy' hx hy
  have S0 : Kept w [(w.heap.size + 1, 0, (.slice q m cap')), (w.heap.size + 1, 1, (.bool b')), (w.heap.size, 0, (.slice p n cap)), (w.heap.size, 1, (.bool b))] [w.heap.size + 1 + 1] (((w.alloc (.cells #[.slice p n cap, .bool b] 45)).alloc (.cells #[.slice q m cap', .bool b'] 45)).alloc (.cells #[.slice none 0 0, .bool false] 45)) := (((Kept.start w).box _ _ _ _ rfl).box _ _ _ _ (by simp)).res _ _ _ _ _ (by simp)
  rw [Int.sub_eq_add_neg]
  go_enter Try.func92, Try.ntmps92
  go_wp2_with fail
  go_region_held3 (fun w' => w'.cell? ⟨w.heap.size + 1, 0, none⟩ = some ((.slice q m cap')) ∧ w'.cell? ⟨w.heap.size + 1, 1, none⟩ = some ((.bool b')) ∧ w'.cell? ⟨w.heap.size, 0, none⟩ = some ((.slice p n cap)) ∧ w'.cell? ⟨w.heap.size, 1, none⟩ = some ((.bool b)) ∧ w'.cell? ⟨w.heap.size + 1 + 1, 0, none⟩ = some (cellOf w' ⟨w.heap.size + 1 + 1, 0, none⟩) ∧ w'.cell? ⟨w.heap.size + 1 + 1, 1, none⟩ = some (cellOf w' ⟨w.heap.size + 1 + 1, 1, none⟩) ∧ w'.frozen? ⟨w.heap.size + 1 + 1, 0, none⟩ = false ∧ w'.frozen? ⟨w.heap.size + 1 + 1, 1, none⟩ = false ∧ w.grownBy w' none) (first | exact Kept.step (W := w) [(w.heap.size + 1, 0, (.slice q m cap')), (w.heap.size + 1, 1, (.bool b')), (w.heap.size, 0, (.slice p n cap)), (w.heap.size, 1, (.bool b))] [w.heap.size + 1 + 1] (by assumption) (by assumption) | exact Kept.set (W := w) [(w.heap.size + 1, 0, (.slice q m cap')), (w.heap.size + 1, 1, (.bool b')), (w.heap.size, 0, (.slice p n cap)), (w.heap.size, 1, (.bool b))] [w.heap.size + 1 + 1] (by simp <;> omega) (by first | omega | (simp <;> omega)) (by assumption) | exact Kept.step [(w.heap.size + 1, 0, (.slice q m cap')), (w.heap.size + 1, 1, (.bool b')), (w.heap.size, 0, (.slice p n cap)), (w.heap.size, 1, (.bool b))] [w.heap.size + 1 + 1] (grown_drew _ _) S0)
    (first | (go_at_call 61; refine (Neg_r (Vy.out.grown (by go_split_ands; assumption))).mono ?_; rintro e w' ⟨v, rfl, hn, hg⟩) | (go_at_call 78; refine (Add_r (Vx.out.grown (by go_split_ands; assumption)) hn hi).mono ?_; have hsz := hg.size; rintro e w' ⟨v, rfl, h, bd, hg⟩; obtain ⟨pv, nv, rfl, h2⟩ := id h))
  rename_i hend
  go_wp2_with fail
  exact end_own Try.results92 rfl rfl hend.2.2.2.2.1 hend.2.2.2.2.2.1 hend.2.2.2.2.2.2.2.2 h (by simp at hsz; omega) (by simp at hsz; omega) bd

theorem cmpI_sub (z y : Int) : cmpI (z - y) 0 = cmpI z y := by
  unfold cmpI
  split <;> split <;> (try split) <;> (try split) <;> omega
set_option maxHeartbeats 1000000 in
theorem Cmp_r {v u : Value} {z y : Int} {i j : Nat} {w : World} (r : Int) (hx : DecI w v z i) (hy : DecI w u y j) (hi : i + j ≤ 1000000) (hr : cmpI z y = r) :
    Calls Try.prog 77 #[v, u] w fun e w' => e = .returned (.int .i64 r) ∧ w.grownBy w' none := by
  subst hr
  rw [← cmpI_sub]
  have Vx := Lib.hid hx
  have Vy := Lib.hid hy
  obtain ⟨b, p, n, cap, X, rfl, hx', rfl⟩ := hx.open
  obtain ⟨b', q, m, cap', Y, rfl, hy', rfl⟩ := hy.open
  clear hx' hy' hx hy
  have S0 : Kept w [(w.heap.size + 1, 0, (.slice q m cap')), (w.heap.size + 1, 1, (.bool b')), (w.heap.size, 0, (.slice p n cap)), (w.heap.size, 1, (.bool b))] [] ((w.alloc (.cells #[.slice p n cap, .bool b] 45)).alloc (.cells #[.slice q m cap', .bool b'] 45)) := ((Kept.start w).box _ _ _ _ rfl).box _ _ _ _ (by simp)
  go_enter Try.func77, Try.ntmps77
  go_wp2_with fail
  refine (Sub_r (Vx.out.grown (Kept.all _ _ S0)) (Vy.out.grown (Kept.all _ _ S0)) hi).mono ?_
  rintro e w1 ⟨v, rfl, h, bd, hg⟩
  have Hv := Lib.hid (h.decI bd)
  have G := Lib.hid (grown_trans (Kept.all _ _ S0) hg)
  clear S0 hg h bd
  go_wp2_with fail
  refine (Sign_r Hv.out).mono ?_
  rintro e w2 ⟨rfl, hg⟩
  have G2 := Lib.hid (grown_trans G.out hg)
  clear hg
  go_wp2_with fail
  go_ret
  exact ⟨rfl, G2.out⟩

end Go.Proofs.Yteblgmjpociffaa

namespace Go.Proofs.Yteblgmjpociffaa
open Go.RowKit

theorem bd_2 {X : Nat} (h : X < 18446744073709551616) : Bd X 2 := by unfold Bd; omega
theorem dig_low {m : Nat} (h : m < 9223372036854775809) : (dig 10000 m).length ≤ 5 := dig_len_le (by omega) 5 m (by omega)
theorem dig_next (l : List Nat) {m : Nat} (h : 0 < m) : l ++ dig 10000 m = (l ++ [m % 10000]) ++ dig 10000 (m / 10000) := by
  rw [dig_pos (by omega) h]; simp

set_option maxHeartbeats 2000000 in
set_option maxRecDepth 100000 in
theorem Of_pos_r (N : Nat) (w : World) (hN : N ≤ 9223372036854775807) :
    Calls Try.prog 28 #[.int .i64 (N : Int)] w (MadeR w ((N : Int)) 2) := by
  obtain ⟨i0, hi, hz0, hz1, hz2⟩ := info_parts Try.infoI
  have S0 : Kept w [] [w.heap.size] (w.alloc (.cells #[.slice none 0 0, .bool false] 45)) := (Kept.start w).res _ _ _ _ _ rfl
  have hq : ((N : Int) == (-9223372036854775808 : Int)) = false := by
    rw [beq_eq_false_iff_ne]
    omega
  have NL := Lib.hid (dig_low (m := N) (by omega))
  go_enter Try.func28, Try.ntmps28
  go_wp2_with fail
  generalize w.alloc (.cells #[.slice none 0 0, .bool false] 45) = W1 at *
  have Hs := S0.size
  have Hl := S0.lt (g := w.heap.size) (by simp)
  go_loopw [0, 4] (fun nv ov wr => ∃ (m : Nat) (l : List Nat), m ≤ N ∧ nv = .int .i64 m ∧ Hid (dig 10000 N = l ++ dig 10000 m) ∧ Own wr 3 .i64 W1.heap.size ov l ∧ W1.grownBy wr none) (fun nv _ _ => (intOf nv).toNat)
  case atStart => exact ⟨N, [], Nat.le_refl _, by go_num, rfl, Own.nil _ _ _ _, grown_refl _ _⟩
  case round =>
    obtain ⟨m, l, hm, rfl, hd, ho, gr⟩ := hrel
    obtain ⟨op, ocap, rfl⟩ := ho.slice
    have Ho := Lib.hid ho
    have Gr := Lib.hid gr
    clear ho gr
    by_cases h0 : m = 0
    · subst h0
      have hd' := hd.out
      rw [dig_zero, List.append_nil] at hd'
      subst hd'
      clear hd
      go_wp2_with fail
      refine (made_any _ _ _ _ _).mono ?_
      rintro e w2 ⟨rfl, hg⟩
      have h := Ho.out.grown hg (.inl rfl)
      replace S0 := S0.grown _ _ (grown_trans Gr.out hg)
      clear hg
      obtain ⟨r0, r1, f0, f1, G⟩ := id S0
      go_wp2_with fail
      exact end_dec (b := false) Try.results28 rfl rfl (set2_fst r0) (set2_snd r1) (Kept.all _ _ (Kept.set _ _ (by simp) (Nat.le_refl _) S0)) h Hs Hl rfl rfl (bd_2 (by omega))
    · have hp : 0 < m := by omega
      have Hd2 := Lib.hid (show _ = _ from hd.out.trans (dig_next l hp))
      have Lz := Lib.hid (show l.length ≤ 5 by
        have := NL.out
        rw [hd.out, List.length_append] at this
        omega)
      clear hd
      have hp' : (0 : Int) < (m : Int) := by omega
      go_wp2_with (at_builtin; refine wp_append1 rfl _ _ 43 rfl 3 i0 (.int .i64 0) .i64 Try.underlying43 hi hz0 hz1 (by omega) rfl W1.heap.size (.slice op l.length ocap) l (m % 10000) rfl (Ho.out.grown (grown_alloc _ _ none) (.inl rfl)) wr.heap.size rfl ?c1 (by have := Lz.out; omega) (by have := Gr.out.size; simp; omega) ?_; (case c1 => exact (World.cell?_alloc_at _ _ _ _ rfl).trans (by simp; try omega)); intro v' w3 ho3 g3; have Ho3 := Lib.hid ho3; have G3 := Lib.hid (grown_own (v := .slice op l.length ocap) g3 (Ho.out.grown (grown_alloc _ _ none) (.inl rfl)) (grown_trans Gr.out (grown_alloc _ _ _))); clear ho3 g3)
      go_roundw
      case rel => exact ⟨m / 10000, l ++ [m % 10000], by omega, by go_num, Hd2.out, Ho3.out, G3.out⟩
      case measure => simp [intOf]; omega

set_option maxHeartbeats 2000000 in
set_option maxRecDepth 100000 in
theorem Of_neg_r (N : Nat) (w : World) (hN : N ≤ 9223372036854775807) (h0 : 0 < N) :
    Calls Try.prog 28 #[.int .i64 (-(N : Int))] w (MadeR w ((-(N : Int))) 2) := by
  obtain ⟨i0, hi, hz0, hz1, hz2⟩ := info_parts Try.infoI
  have S0 : Kept w [] [w.heap.size] (w.alloc (.cells #[.slice none 0 0, .bool false] 45)) := (Kept.start w).res _ _ _ _ _ rfl
  have hq : ((-(N : Int)) == (-9223372036854775808 : Int)) = false := by
    rw [beq_eq_false_iff_ne]
    omega
  have NL := Lib.hid (dig_low (m := N) (by omega))
  go_enter Try.func28, Try.ntmps28
  go_wp2_with fail
  generalize w.alloc (.cells #[.slice none 0 0, .bool false] 45) = W1 at *
  have Hs := S0.size
  have Hl := S0.lt (g := w.heap.size) (by simp)
  go_loopw [0, 4] (fun nv ov wr => ∃ (m : Nat) (l : List Nat), m ≤ N ∧ nv = .int .i64 m ∧ Hid (dig 10000 N = l ++ dig 10000 m) ∧ Own wr 3 .i64 W1.heap.size ov l ∧ W1.grownBy wr none) (fun nv _ _ => (intOf nv).toNat)
  case atStart => exact ⟨N, [], Nat.le_refl _, by go_num, rfl, Own.nil _ _ _ _, grown_refl _ _⟩
  case round =>
    obtain ⟨m, l, hm, rfl, hd, ho, gr⟩ := hrel
    obtain ⟨op, ocap, rfl⟩ := ho.slice
    have Ho := Lib.hid ho
    have Gr := Lib.hid gr
    clear ho gr
    by_cases h0 : m = 0
    · subst h0
      have hd' := hd.out
      rw [dig_zero, List.append_nil] at hd'
      subst hd'
      clear hd
      go_wp2_with fail
      refine (made_any _ _ _ _ _).mono ?_
      rintro e w2 ⟨rfl, hg⟩
      have h := Ho.out.grown hg (.inl rfl)
      replace S0 := S0.grown _ _ (grown_trans Gr.out hg)
      clear hg
      obtain ⟨r0, r1, f0, f1, G⟩ := id S0
      go_wp2_with fail
      exact end_dec (b := true) Try.results28 rfl rfl (set2_fst r0) (set2_snd r1) (Kept.all _ _ (Kept.set _ _ (by simp) (Nat.le_refl _) S0)) h Hs Hl rfl rfl (bd_2 (by omega))
    · have hp : 0 < m := by omega
      have Hd2 := Lib.hid (show _ = _ from hd.out.trans (dig_next l hp))
      have Lz := Lib.hid (show l.length ≤ 5 by
        have := NL.out
        rw [hd.out, List.length_append] at this
        omega)
      clear hd
      have hp' : (0 : Int) < (m : Int) := by omega
      go_wp2_with (at_builtin; refine wp_append1 rfl _ _ 43 rfl 3 i0 (.int .i64 0) .i64 Try.underlying43 hi hz0 hz1 (by omega) rfl W1.heap.size (.slice op l.length ocap) l (m % 10000) rfl (Ho.out.grown (grown_alloc _ _ none) (.inl rfl)) wr.heap.size rfl ?c1 (by have := Lz.out; omega) (by have := Gr.out.size; simp; omega) ?_; (case c1 => exact (World.cell?_alloc_at _ _ _ _ rfl).trans (by simp; try omega)); intro v' w3 ho3 g3; have Ho3 := Lib.hid ho3; have G3 := Lib.hid (grown_own (v := .slice op l.length ocap) g3 (Ho.out.grown (grown_alloc _ _ none) (.inl rfl)) (grown_trans Gr.out (grown_alloc _ _ _))); clear ho3 g3)
      go_roundw
      case rel => exact ⟨m / 10000, l ++ [m % 10000], by omega, by go_num, Hd2.out, Ho3.out, G3.out⟩
      case measure => simp [intOf]; omega

set_option maxHeartbeats 1000000 in
theorem Of_min_r (w : World) : Calls Try.prog 28 #[.int .i64 (-9223372036854775808)] w (MadeR w (-9223372036854775808) 2) := by
  have S0 : Kept w [] [w.heap.size] (w.alloc (.cells #[.slice none 0 0, .bool false] 45)) := (Kept.start w).res _ _ _ _ _ rfl
  have hz : sg true (2 ^ 63) = -9223372036854775808 := by simp [sg]
  go_enter Try.func28, Try.ntmps28
  go_wp2_with fail
  have S1 := S0
  refine (PowD_n 63 2 (by omega) (by omega)).mono ?_
  rintro e w1 ⟨v, rfl, h, bd, hg⟩
  obtain ⟨pv, nv, rfl⟩ := h.slice
  replace S0 := S0.grown _ _ hg
  clear hg
  generalize hP : (2 : Nat) ^ 63 = P at *
  go_wp2_with fail
  refine (made_any _ _ _ _ _).mono ?_
  rintro e w2 ⟨rfl, hg⟩
  replace h := h.grown hg (.inl rfl)
  replace S0 := S0.grown _ _ hg
  clear hg
  obtain ⟨r0, r1, f0, f1, G⟩ := id S0
  go_wp2_with fail
  exact end_dec (b := true) Try.results28 rfl rfl (set2_fst r0) (set2_snd r1) (Kept.all _ _ (Kept.set _ _ (by simp) (Nat.le_refl _) S0)) h S1.size (S1.lt (by simp)) rfl hz bd
theorem Of_r (z : Int) (w : World) (h1 : -9223372036854775808 ≤ z) (h2 : z ≤ 9223372036854775807) : Calls Try.prog 28 #[.int .i64 z] w (MadeR w z 2) := by
  by_cases h3 : z = -9223372036854775808
  · subst h3
    exact Of_min_r w
  · rcases Int.lt_or_le z 0 with h | h
    · obtain ⟨N, rfl⟩ : ∃ N : Nat, z = -(N : Int) := ⟨z.natAbs, by omega⟩
      exact Of_neg_r N w (by omega) (by omega)
    · obtain ⟨N, rfl⟩ : ∃ N : Nat, z = (N : Int) := ⟨z.natAbs, by omega⟩
      exact Of_pos_r N w (by omega)

end Go.Proofs.Yteblgmjpociffaa

namespace Go.Proofs.Yteblgmjpociffaa
open Go.RowKit

/-- v is the whole number z, normal. -/
def NorI (w : World) (v : Value) (z : Int) : Prop := ∃ p cap, v = .agg #[.bool (decide (z < 0)), .slice p (dig 4294967296 z.natAbs).length cap] ∧ Sl w .u32 (.slice p (dig 4294967296 z.natAbs).length cap) (dig 4294967296 z.natAbs)
theorem NorI.grown {w w' : World} {v : Value} {z : Int} (h : NorI w v z) (g : w.grownBy w' none) : NorI w' v z := by
  obtain ⟨p, cap, h1, h2⟩ := h
  exact ⟨p, cap, h1, h2.grown g (.inl rfl)⟩
theorem OwnI.nor {w : World} {B : Nat} {v : Value} {z : Int} (h : OwnI w B v z) : NorI w v z := by
  obtain ⟨p, cap, h1, h2⟩ := h
  exact ⟨p, cap, h1, h2.sl⟩
theorem NorI.intV {w : World} {v : Value} {z : Int} {k : Nat} (h : NorI w v z) (hb : Bd z.natAbs k) : IntV w v z k := by
  obtain ⟨p, cap, h1, h2⟩ := h
  exact ⟨_, _, _, h1, (show NumC w _ _ _ from ⟨h2, hb⟩).num, (sg_self z).symm⟩

set_option maxHeartbeats 2000000 in
set_option maxRecDepth 100000 in
theorem Same_r {v u : Value} {z : Int} {k : Nat} {w : World} (hx : DecI w v z k) (hk : k ≤ 1000000) (hu : NorI w u z) :
    Calls Try.prog 76 #[v, u] w (Bool_ w true) := by
  obtain ⟨p, cap, rfl, hx⟩ := hx
  obtain ⟨q, cap', rfl, hu⟩ := hu
  have S0 : Kept w [(w.heap.size + 1, 0, (.bool (decide (z < 0)))), (w.heap.size + 1, 1, (.slice q (dig 4294967296 z.natAbs).length cap')), (w.heap.size, 0, (.slice p (dig 10000 z.natAbs).length cap)), (w.heap.size, 1, (.bool (decide (z < 0))))] [] ((w.alloc (.cells #[.slice p (dig 10000 z.natAbs).length cap, .bool (decide (z < 0))] 45)).alloc (.cells #[.bool (decide (z < 0)), .slice q (dig 4294967296 z.natAbs).length cap'] 36)) := ((Kept.start w).box _ _ _ _ rfl).box _ _ _ _ (by simp)
  have Hx := Lib.hid hx
  have Hu := Lib.hid hu
  clear hx hu
  go_enter Try.func76, Try.ntmps76
  go_wp2_with fail
  refine (RTo (Hx.out.grown (Kept.all _ _ S0)).1 (by have := Hx.out.len; omega)).mono ?_
  rintro e w1 ⟨v, rfl, h, hg⟩
  obtain ⟨pv, nv, rfl⟩ := h.slice
  replace S0 := S0.grown _ _ hg
  obtain ⟨p1, cp1, e1, m1, m2, h3⟩ := h.sl
  have hu1 := Hu.out.grown (Kept.all _ _ S0) (.inl rfl)
  obtain ⟨p2, cp2, e2, -, -, h4⟩ := hu1
  simp only [Value.slice.injEq, true_and] at e1 e2
  obtain ⟨rfl, rfl⟩ := e1
  obtain ⟨rfl, rfl⟩ := e2
  clear hg h Hu Hx
  generalize dig 4294967296 z.natAbs = l at *
  obtain ⟨n, hn⟩ : ∃ n, l.length = n := ⟨_, rfl⟩
  have Hn := Lib.hid hn
  rw [hn] at S0 m1 ⊢
  have nb : n ≤ 9223372036854775807 := by omega
  clear hn m1 m2
  have hln : (decide (z < 0) != decide (z < 0)) = false := by simp
  obtain ⟨c0, c1, c2, c3, G⟩ := id S0
  have G1 := Lib.hid G
  clear G S0
  go_wp2_with fail
  go_loopw [25] (fun iv wr => ∃ (i d : Nat), i ≤ n ∧ iv = .int .i64 i ∧ wr = w1.drewN d) (fun iv _ => (n - (intOf iv).toNat))
  case atStart => exact ⟨0, 0, by omega, rfl, rfl⟩
  case round =>
    obtain ⟨i, d, hi, rfl, rfl⟩ := hrel
    by_cases hlt : i < n
    · rcases h3 with h3 | ⟨b1, o1, rfl, hb1, hy1⟩
      · have := Hn.out; rw [h3] at this; simp at this; omega
      rcases h4 with h4 | ⟨b2, o2, rfl, hb2, hy2⟩
      · have := Hn.out; rw [h4] at this; simp at this; omega
      have d1 := hy1 i (by rw [Hn.out]; omega)
      have d2 := hy2 i (by rw [Hn.out]; omega)
      clear hy1 hy2
      have i1 : (i : Int) < (n : Int) := by omega
      have hb : (((nth l i : Nat) : Int) != ((nth l i : Nat) : Int)) = false := by simp
      go_wp2
      go_quiet (fail)
      go_wp2
      go_roundw
      case rel => exact ⟨i + 1, _, by omega, by go_num, rfl⟩
      case measure => simp [intOf]; omega
    · obtain rfl : i = n := by omega
      clear h3 h4
      go_wp2
      go_ret
      exact ⟨rfl, grown_trans G1.out (grown_drewN _ _ _)⟩

theorem SameInt_t {v u : Value} {z y : Int} {w : World} (hv : NorI w v z) (hu : NorI w u y) (e : z = y) : Calls Try.prog 59 #[v, u] w (Bool_ w true) := by
  subst e
  obtain ⟨p, cap, rfl, hv⟩ := hv
  obtain ⟨q, cap', rfl, hu⟩ := hu
  have S0 : Kept w [(w.heap.size + 1, 0, (.bool (decide (z < 0)))), (w.heap.size + 1, 1, (.slice q (dig 4294967296 z.natAbs).length cap')), (w.heap.size, 0, (.bool (decide (z < 0)))), (w.heap.size, 1, (.slice p (dig 4294967296 z.natAbs).length cap))] [] ((w.alloc (.cells #[.bool (decide (z < 0)), .slice p (dig 4294967296 z.natAbs).length cap] 36)).alloc (.cells #[.bool (decide (z < 0)), .slice q (dig 4294967296 z.natAbs).length cap'] 36)) := ((Kept.start w).box _ _ _ _ rfl).box _ _ _ _ (by simp)
  have Hv := Lib.hid hv
  have Hu := Lib.hid hu
  have hb : (decide (z < 0) == decide (z < 0)) = true := by simp
  clear hv hu
  go_enter Try.func59, Try.ntmps59
  go_wp2_with fail
  refine (Same_b (Hv.out.grown (Kept.all _ _ S0) (.inl rfl)) (Hu.out.grown (Kept.all _ _ S0) (.inl rfl))).mono ?_
  rintro e w1 ⟨rfl, hg⟩
  rw [eqB_self]
  have G1 := Lib.hid (grown_trans (Kept.all _ _ S0) hg)
  clear hg
  go_wp2_with fail
  go_ret
  exact ⟨rfl, G1.out⟩

theorem Row_g {p : Option Addr} {n cap k : Nat} {w : World} (hn : n ≤ cap) :
    Calls Try.prog 60 #[.slice p n cap, .int .i64 k] w fun e w' => e = .returned (.slice p (min n k) cap) ∧ w.grownBy w' none :=
  (Row_any hn).mono fun _ _ ⟨h1, h2⟩ => ⟨h1, h2 ▸ grown_refl _ _⟩
set_option maxHeartbeats 1000000 in
theorem Int_k {b : Bool} {p : Option Addr} {cap n : Nat} {xs : List Nat} {w : World} (k : Nat) (h1 : xs.length ≤ cap) (hn : (xs.take k).length = n) :
    Calls Try.prog 24 #[.agg #[.bool b, .slice p xs.length cap], .int .i64 k] w fun e w' => e = .returned (.agg #[.bool b, .slice p n cap]) ∧ w.grownBy w' none := by
  have S0 : Kept w [(w.heap.size, 0, .bool b), (w.heap.size, 1, .slice p xs.length cap)] [w.heap.size + 1] ((w.alloc (.cells #[.bool b, .slice p xs.length cap] 36)).alloc (.cells #[.bool false, .slice none 0 0] 36)) := ((Kept.start w).box _ _ _ _ rfl).res _ _ _ _ _ (by simp)
  have Hm := Lib.hid (show min xs.length k = n by rw [← hn, List.length_take, Nat.min_comm])
  clear hn
  go_enter Try.func24, Try.ntmps24
  go_wp2_with fail
  go_region_held3 (fun w' => w'.cell? ⟨w.heap.size, 0, none⟩ = some (.bool b) ∧ w'.cell? ⟨w.heap.size, 1, none⟩ = some (.slice p xs.length cap) ∧ w'.cell? ⟨w.heap.size + 1, 0, none⟩ = some (cellOf w' ⟨w.heap.size + 1, 0, none⟩) ∧ w'.cell? ⟨w.heap.size + 1, 1, none⟩ = some (cellOf w' ⟨w.heap.size + 1, 1, none⟩) ∧ w'.frozen? ⟨w.heap.size + 1, 0, none⟩ = false ∧ w'.frozen? ⟨w.heap.size + 1, 1, none⟩ = false ∧ w.grownBy w' none) (first | exact Kept.step (W := w) [(w.heap.size, 0, .bool b), (w.heap.size, 1, .slice p xs.length cap)] [w.heap.size + 1] (by assumption) (by assumption) | exact Kept.set (W := w) [(w.heap.size, 0, .bool b), (w.heap.size, 1, .slice p xs.length cap)] [w.heap.size + 1] (by simp <;> omega) (by first | omega | (simp <;> omega)) (by assumption) | exact Kept.step [(w.heap.size, 0, .bool b), (w.heap.size, 1, .slice p xs.length cap)] [w.heap.size + 1] (grown_drew _ _) S0)
    (first | (go_at_call 60; refine (Row_g h1).mono ?_; rintro e w' ⟨rfl, hg⟩))
  rename_i hend
  go_wp2_with fail
  refine post_box24 Try.results24 rfl rfl (set2_read0 hend.2.2.1) (set2_read1 hend.2.2.2.1) ⟨?_, hend.2.2.2.2.2.2⟩
  rw [Hm.out]

/-- What 'of' hands back. -/
def OfL (w : World) (b : Bool) (xs : List Nat) (k : Nat) (e : Ending) (w' : World) : Prop :=
  ∃ p n cap u, e = .returned (.tuple #[.agg #[.bool b, .slice p n cap], u]) ∧ Sl w .u32 (.slice p n cap) (xs.take k) ∧ DecI w' u (sg b (val 4294967296 (xs.take k))) k ∧ w.grownBy w' none
theorem post_of {fn : Func} {R : Ending → World → Prop} {a : Act} {w : World} {r g r' g' : Nat} {x y x' y' : Value} (hres : fn.results = #[ResultVar.cell r 36, ResultVar.cell r' 45]) (hd : a.defers = [])
    (hr : a.tmps[r]? = some (.pointer (some ⟨g, 0, none⟩))) (hr' : a.tmps[r']? = some (.pointer (some ⟨g', 0, none⟩)))
    (c0 : w.cell? ⟨g, 0, none⟩ = some x) (c1 : w.cell? ⟨g, 1, none⟩ = some y) (d0 : w.cell? ⟨g', 0, none⟩ = some x') (d1 : w.cell? ⟨g', 1, none⟩ = some y') (h : R (.returned (.tuple #[.agg #[x, y], .agg #[x', y']])) w) : bodyPost Try.prog fn R .ret a w := by
  simp [bodyPost, results, hres, hr, hr', c0, c1, d0, d1, go_sem, h, hd]
theorem set2_back {w : World} {g : Nat} {u v x : Value} {a : Addr} (h : (set2 w g u v).cell? a = some x) (hg : a.block ≠ g) : w.cell? a = some x := by
  unfold set2 at h
  rwa [World.cell?_setCell_far _ _ _ _ (fun e => hg e.symm), World.cell?_setCell_far _ _ _ _ (fun e => hg e.symm)] at h
theorem ownD_set2 {w : World} {B g : Nat} {v x y : Value} {z : Int} (h : OwnD w B v z) (hg : g < B) : OwnD (set2 w g x y) B v z := by
  obtain ⟨p, cap, h1, h2⟩ := h
  exact ⟨p, cap, h1, h2.grown (set2_grown _ _ _ _) (own_ne h2 hg)⟩
end Go.Proofs.Yteblgmjpociffaa

namespace Go.Proofs.Yteblgmjpociffaa
open Go.RowKit

theorem Zero_r {v : Value} {z : Int} {k : Nat} {w : World} (hx : DecI w v z k) :
    Calls Try.prog 35 #[v] w fun e w' => e = .returned (.bool (decide (z = 0))) ∧ w.grownBy w' none := by
  have bx := hx.bd
  obtain ⟨p, cap, rfl, hx⟩ := hx
  have Hx := Lib.hid hx
  clear hx
  clear bx Hx
  have e : ((((dig 10000 z.natAbs).length : Nat) : Int) == 0) = decide (z = 0) := by
    have := dig_len_zero (b := 10000) (by omega) (n := z.natAbs)
    rw [Bool.eq_iff_iff, beq_iff_eq, decide_eq_true_eq]
    omega
  generalize (dig 10000 z.natAbs).length = l at *
  go_enter Try.func35, Try.ntmps35
  go_wp2_with fail
  go_ret
  refine ⟨?_, grown_alloc _ _ _⟩
  simp_all

end Go.Proofs.Yteblgmjpociffaa
