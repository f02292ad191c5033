/- Layer 5's example. -/
import Derived.Test.YteblgmjpociffaaPolX
import Derived.Test.YteblgmjpociffaaPolW
namespace Go.Proofs.Yteblgmjpociffaa
open Go.RowKit Go.Proofs.Yteblgmjpociffaa.Sym
theorem Rw.grow {sz n : Nat} {F : Nat → World → Value → Prop} {w w' : World} {v : Value} (hF : ∀ i w w1 v, Kp w w1 → F i w v → F i w1 v) (h : Rw sz F n w v) (g : w.grownBy w' none) : Rw sz F n w' v := by
  obtain ⟨p, c, rfl, hc, h1⟩ := h
  refine ⟨p, c, rfl, hc, fun i hi => ?_⟩
  obtain ⟨b, off, rfl, l, h2, h3, h4⟩ := h1 i hi
  exact ⟨b, off, rfl, l, h2, fun j u hj => cell_grown g (h3 j u hj), hF _ _ _ _ (Kp.of g) h4⟩
theorem Rw.off0 {sz n : Nat} {F : Nat → World → Value → Prop} {w w1 : World} {v : Value} (hF : ∀ i w w1 v, Kp w w1 → F i w v → F i w1 v) (h : Rw sz F n w v) (ho : Off (fun _ => False) w w1) : Rw sz F n w1 v := by
  have := Rw.arg (Φ := fun _ => Rw sz F n) (p := 0) (X := fun _ => False) hF h rfl (fun _ h => h.elim)
  exact this w1 ho
/-- Three small numbers in a row. -/
theorem three (a b c : Int) (w : World) : Rw 1 (fun i _ v => v = .agg #[.int .i64 (coef [a, b, c] i)]) 3 (w.alloc (.cells #[.int .i64 a, .int .i64 b, .int .i64 c] 3)) (.slice (some ⟨w.heap.size, 0, none⟩) 3 3) := by
  refine ⟨_, _, rfl, Nat.le_refl _, fun i hi => ⟨_, _, rfl, [.int .i64 (coef [a, b, c] i)], rfl, fun j u hj => ?_, rfl⟩⟩
  cases j with
  | succ j => simp at hj
  | zero =>
    simp only [List.getElem?_cons_zero, Option.some.injEq] at hj
    subst hj
    rw [World.cell?_alloc_new]
    have : i = 0 ∨ i = 1 ∨ i = 2 := by omega
    rcases this with rfl | rfl | rfl <;> simp [coef]
theorem POf_c {z : Nat → Int} {n : Nat} {L : List Int} {w : World} {v : Value} (h : Rw 1 (fun i _ v => v = .agg #[.int .i64 (z i)]) n w v) (hn : n ≤ 1000000) (hz : ∀ i, -9223372036854775808 ≤ z i ∧ z i ≤ 9223372036854775807) (hL : trimL (mk n z) = L) :
    Calls Try.prog 33 #[v] w fun e w' => w.grownBy w' none ∧ ∃ u, e = .returned u ∧ Rw 2 (fun i w v => NorV w v (coef L i) 2) L.length w' u := by
  refine (sPOf (Φ := ph [fun w v => Rw 1 (fun i _ v => v = .agg #[.int .i64 (z i)]) n w v, fun w v => Rw 2 (fun i w v => NorV w v (coef L i) 2) L.length w v]) (p := 0) (x := 1) (fun _ _ h => h) rfl hn hz hL (fun _ => False) w [v] (fun _ h => h.elim) ⟨fun w1 hw => Rw.off0 (fun _ _ _ _ _ h => h) h hw, trivial⟩).mono fun e w' ⟨hg, us, he, ho⟩ => ⟨hg, ?_⟩
  match us, ho with
  | [u], ho => exact ⟨u, he, ho.1.2 (0, 0, 1) (List.mem_cons_self ..) w' (Off.refl _ _)⟩
theorem ROf_c {z : Nat → Int} {n : Nat} {L : List Int} {w : World} {v : Value} (h : Rw 1 (fun i _ v => v = .agg #[.int .i64 (z i)]) n w v) (hn : n ≤ 1000000) (hz : ∀ i, -9223372036854775808 ≤ z i ∧ z i ≤ 9223372036854775807) (hL : trimL (mk n z) = L) :
    Calls Try.prog 25 #[v] w fun e w' => w.grownBy w' none ∧ ∃ u, e = .returned u ∧ Rw 4 (fun i w v => DecQ w v ((coef L i : Int) : Rat) 6) L.length w' u := by
  refine (sPROf (Φ := ph [fun w v => Rw 1 (fun i _ v => v = .agg #[.int .i64 (z i)]) n w v, fun w v => Rw 4 (fun i w v => DecQ w v ((coef L i : Int) : Rat) 6) L.length w v]) (p := 0) (x := 1) (fun _ _ h => h) rfl hn hz hL (fun _ => False) w [v] (fun _ h => h.elim) ⟨fun w1 hw => Rw.off0 (fun _ _ _ _ _ h => h) h hw, trivial⟩).mono fun e w' ⟨hg, us, he, ho⟩ => ⟨hg, ?_⟩
  match us, ho with
  | [u], ho => exact ⟨u, he, ho.1.2 (0, 0, 1) (List.mem_cons_self ..) w' (Off.refl _ _)⟩
theorem Move_c {w : World} {v x y : Value} (h : Rw 2 (fun i w v => NorV w v (coef [0, 0, 1] i) 2) 3 w v) (h1 : IntV w x 1 2) (h2 : IntV w y 2 2) :
    Calls Try.prog 34 #[v, x, y] w fun e w' => w.grownBy w' none ∧ ∃ u, e = .returned (.tuple #[u, .int .i64 0]) ∧ Rw 2 (fun i w v => NorV w v (coef [1, 4, 4] i) 30) 3 w' u := by
  have ht : tl (coef [0, 0, 1]) 3 = 3 := by decide
  have hL : mvL (coef [0, 0, 1]) 3 1 2 = [1, 4, 4] := by decide +kernel
  have hB : ∀ j, j ≤ tl (coef [0, 0, 1]) 3 → Bd ((2 : Int) ^ j).natAbs 2 := fun j hj => by
    rw [ht] at hj
    have : j = 0 ∨ j = 1 ∨ j = 2 ∨ j = 3 := by omega
    rcases this with rfl | rfl | rfl | rfl <;> (show _ < _; decide)
  have hM : ∀ j a, j ≤ tl (coef [0, 0, 1]) 3 → a < tl (coef [0, 0, 1]) 3 → Bd (mvS (coef [0, 0, 1]) 3 1 2 j a).natAbs 20 := fun j a hj ha => by
    rw [ht] at hj ha
    have h1 : j = 0 ∨ j = 1 ∨ j = 2 ∨ j = 3 := by omega
    have h2 : a = 0 ∨ a = 1 ∨ a = 2 := by omega
    have h3 : (1000000 : Nat) < 4294967296 ^ 20 := by decide
    refine Nat.lt_trans ?_ h3
    rcases h1 with rfl | rfl | rfl | rfl <;> rcases h2 with rfl | rfl | rfl <;> decide +kernel
  refine (sMove (Φ := ph [fun w v => Rw 2 (fun i w v => NorV w v (coef [0, 0, 1] i) 2) 3 w v, fun w v => IntV w v 1 2, fun w v => IntV w v 2 2, fun w v => Rw 2 (fun i w v => NorV w v (coef [1, 4, 4] i) 30) 3 w v]) (p := 0) (q := 1) (r := 2) (x := 3) (z := coef [0, 0, 1]) (n := 3) (k := 2) (ku := 2) (kd := 2) (kp := 2) (K1 := 10) (K2 := 20) (fun _ _ h => Rw.to (F := fun i w v => NorV w v (coef [0, 0, 1] i) 2) h fun _ _ _ _ h => NorV.i h) (fun _ _ h => h) (fun _ _ h => h) rfl (by omega) (by omega) (by omega) (by omega) (by decide) (by omega) (by omega) (by omega) (by omega) (by omega) hB hM hL (fun _ => False) w [v, x, y] (fun _ h => h.elim) ⟨fun w1 hw => Rw.off0 (F := fun i w v => NorV w v (coef [0, 0, 1] i) 2) (fun _ _ _ _ g h => NorV.kp h g) h hw, fun w1 hw => h1.kp hw.1, fun w1 hw => h2.kp hw.1, trivial⟩).mono fun e w' ⟨hg, us, he, ho⟩ => ⟨hg, ?_⟩
  match us, ho with
  | [u, t], ho =>
    obtain rfl : t = .int .i64 0 := ho.2.1.1.1
    exact ⟨u, he, ho.1.2 (0, 0, 3) (List.mem_cons_self ..) w' (Off.refl _ _)⟩
theorem Is_c {z : Nat → Int} {n k kq : Nat} {w : World} {v u : Value} (h : Rw 4 (fun i w v => DecQ w v ((z i : Int) : Rat) kq) n w v) (h' : Rw 2 (fun i w v => NorV w v (z i) k) n w u) (hn : n ≤ 1000000) (hkq : kq ≤ 500000) (hk : k ≤ 500000) :
    Calls Try.prog 9 #[v, u] w fun e w' => w.grownBy w' none ∧ e = .returned (.bool true) := by
  refine (sIsP (Φ := ph [fun w v => Rw 4 (fun i w v => DecQ w v ((z i : Int) : Rat) kq) n w v, fun w v => Rw 2 (fun i w v => NorV w v (z i) k) n w v]) (p := 0) (q := 1) (fun _ _ h => h) (fun _ _ h => h) hn hkq hk (fun _ => False) w [v, u] (fun _ h => h.elim) ⟨fun w1 hw => Rw.off0 (F := fun i w v => DecQ w v ((z i : Int) : Rat) kq) (fun _ _ _ _ g h => DecQ.kp h g) h hw, fun w1 hw => Rw.off0 (F := fun i w v => NorV w v (z i) k) (fun _ _ _ _ g h => NorV.kp h g) h' hw, trivial⟩).mono fun e w' ⟨hg, us, he, ho⟩ => ⟨hg, ?_⟩
  match us, ho with
  | [t], ho =>
    obtain rfl : t = .bool true := ho.1.1.1
    exact he
set_option maxHeartbeats 4000000 in
set_option maxRecDepth 100000 in
theorem wakes5 (w : World) : Calls Try.prog 23 #[] w (Bool_ w true) := by
  go_enter Try.func23, Try.ntmps23
  go_wp2_with fail
  have t3 := three 0 0 1 w
  have g0 := World.grownBy_alloc w (.cells #[.int .i64 0, .int .i64 0, .int .i64 1] 3) none
  generalize w.alloc (.cells #[.int .i64 0, .int .i64 0, .int .i64 1] 3) = W1 at *
  refine (POf_c (L := [0, 0, 1]) t3 (by omega) (fun i => by rcases i with _ | _ | _ | i <;> simp [coef]) (by decide)).mono ?_
  rintro e w2 ⟨g1, v5, rfl, h5⟩
  replace g0 := grown_trans g0 g1
  clear t3 g1
  go_wp2_with fail
  refine (Of_g 1 (by omega) (by omega) rfl).mono ?_
  rintro e w3 ⟨b6, s6, n6, c6, rfl, h6, g1⟩
  replace h5 := Rw.grow (F := fun i w v => NorV w v (coef [0, 0, 1] i) 2) (fun _ _ _ _ g h => NorV.kp h g) h5 g1
  replace g0 := grown_trans g0 g1
  have H6 := h6.i
  clear h6 g1
  go_wp2_with fail
  refine (Of_g 2 (by omega) (by omega) rfl).mono ?_
  rintro e w4 ⟨b7, s7, n7, c7, rfl, h7, g1⟩
  replace h5 := Rw.grow (F := fun i w v => NorV w v (coef [0, 0, 1] i) 2) (fun _ _ _ _ g h => NorV.kp h g) h5 g1
  replace g0 := grown_trans g0 g1
  replace H6 := H6.grown g1
  have H7 := h7.i
  clear h7 g1
  go_wp2_with fail
  refine (Move_c h5 H6 H7).mono ?_
  rintro e w5 ⟨g1, u, rfl, h8⟩
  replace g0 := grown_trans g0 g1
  clear h5 H6 H7 g1
  go_wp2_with fail
  have t3 := three 1 4 4 w5
  have g2 := World.grownBy_alloc w5 (.cells #[.int .i64 1, .int .i64 4, .int .i64 4] 3) none
  replace h8 := Rw.grow (F := fun i w v => NorV w v (coef [1, 4, 4] i) 30) (fun _ _ _ _ g h => NorV.kp h g) h8 g2
  replace g0 := grown_trans g0 g2
  generalize w5.alloc (.cells #[.int .i64 1, .int .i64 4, .int .i64 4] 3) = W6 at *
  clear g2
  refine (ROf_c (L := [1, 4, 4]) t3 (by omega) (fun i => by rcases i with _ | _ | _ | i <;> simp [coef]) (by decide)).mono ?_
  rintro e w7 ⟨g1, v9, rfl, h9⟩
  replace h8 := Rw.grow (F := fun i w v => NorV w v (coef [1, 4, 4] i) 30) (fun _ _ _ _ g h => NorV.kp h g) h8 g1
  replace g0 := grown_trans g0 g1
  clear t3 g1
  go_wp2_with fail
  refine (Is_c (z := coef [1, 4, 4]) (n := 3) (k := 30) (kq := 6) h9 h8 (by omega) (by omega) (by omega)).mono ?_
  rintro e w8 ⟨g1, rfl⟩
  replace g0 := grown_trans g0 g1
  clear h8 h9 g1
  go_wp2_with fail
  go_ret
  exact ⟨rfl, g0⟩
theorem Sym.sWakes5 {Φ : Nat → World → Value → Prop} : SiteOk Φ Try.prog ⟨23, [], [⟨.one (.lit (.cb true)), []⟩], false⟩ := site0 fun _ w => (wakes5 w).mono fun _ _ h => pstB h
end Go.Proofs.Yteblgmjpociffaa
