/- Package digits: what it writes; the library's TrimRight and Reverse over bytes. -/
import Derived.Test.YtjakllpnbeagjaaGreatDoorRowsB
namespace Go.Proofs.YtjakllpnbeagjaaGreatDoor
open Go.RowKit

def slLen : Value → Nat
  | .slice _ n _ => n
  | _ => 0
/-- Without noughts behind. -/
def cutZ (xs : List Nat) : Nat → Nat
  | 0 => 0
  | k + 1 => if nth xs k = 48 then cutZ xs k else k + 1
theorem cutZ_le (xs : List Nat) (k : Nat) : cutZ xs k ≤ k := by
  induction k with
  | zero => exact Nat.le_refl _
  | succ k ih => unfold cutZ; split <;> omega
set_option maxHeartbeats 1000000 in
theorem trimB {w : World} {p : Option Addr} {n cap : Nat} {xs : List Nat} (h : Sl w .u8 (.slice p n cap) xs) :
    Calls Tryz.prog 102 #[.slice p n cap, .int .u8 48] w fun e w' => e = .returned (.slice p (cutZ xs xs.length) cap) ∧ w = w' := by
  obtain ⟨p', cap', e, h1, h2, h3⟩ := h
  simp only [Value.slice.injEq] at e
  obtain ⟨rfl, rfl, rfl⟩ := e
  obtain ⟨n, hn⟩ : ∃ n, xs.length = n := ⟨_, rfl⟩
  rw [hn] at h1 ⊢
  have H3 := Lib.hid h3
  have Hn := Lib.hid hn
  clear h3 hn
  go_enter Tryz.func102, Tryz.ntmps102
  go_wp2
  go_loop [0] (fun v => ∃ k : Nat, k ≤ n ∧ v = .slice p k cap ∧ cutZ xs k = cutZ xs n) (fun v => slLen v)
  case atStart => exact ⟨n, by omega, rfl, rfl⟩
  case round =>
    obtain ⟨k, hk, rfl, ht⟩ := hrel
    have HT := Lib.hid ht
    clear ht
    cases k with
    | zero =>
      go_wp2
      go_ret
      exact ⟨by rw [← HT.out]; rfl, rfl⟩
    | succ k =>
      rcases H3.out with h3 | ⟨b, off, rfl, hb, h5⟩
      · have := Hn.out; rw [h3] at this; simp at this; omega
      have hcell := h5 k (by rw [Hn.out]; omega)
      have hkc : k + 1 ≤ cap := by omega
      clear h5
      by_cases h0 : nth xs k = 48
      · have hb : (((nth xs k : Nat) : Int) == 48) = true := by rw [h0]; rfl
        have HZ := Lib.hid h0
        clear h0
        go_wp2
        go_round
        case rel => exact ⟨k, by omega, by go_num, by rw [← HT.out]; simp [cutZ, HZ.out]⟩
        case measure => simp [slLen]
      · have hb : (((nth xs k : Nat) : Int) == 48) = false := by simp; omega
        have HZ := Lib.hid h0
        clear h0
        go_wp2
        go_ret
        exact ⟨by rw [← HT.out]; simp [cutZ, HZ.out], rfl⟩

theorem NorV.nor {w : World} {v : Value} {z : Int} {k : Nat} (h : NorV w v z k) : NorI w v z := And.left h
theorem NorV.bdd {w : World} {v : Value} {z : Int} {k : Nat} (h : NorV w v z k) : Bd z.natAbs k := And.right h
theorem OwnB.set {w : World} {B : Nat} {v : Value} {xs : List Nat} {g o : Nat} {x : Value} (h : OwnB w B v xs) (u : Value) (hc : w.cell? ⟨g, o, none⟩ = some x) (hx : ¬ IsB x) : OwnB (w.setCell ⟨g, o, none⟩ u) B v xs :=
  h.grown (row := some g) ⟨rfl, rfl, rfl, by simp, fun q _ hq => Below.heap_setCell _ _ _ _ (by simpa using fun e => hq (congrArg some e))⟩ (.inr (h.away hc hx))
theorem noB_bool {b : Bool} : ¬ IsB (.bool b) := by rintro ⟨z, e⟩; cases e
theorem noB_slice {p : Option Addr} {n c : Nat} : ¬ IsB (.slice p n c) := by rintro ⟨z, e⟩; cases e
def chB (ds : List Nat) : List Nat := ds.map (48 + ·)
theorem chB_len (ds : List Nat) : (chB ds).length = ds.length := by simp [chB]
theorem chB_snoc (ds : List Nat) (d : Nat) : chB (ds ++ [d]) = chB ds ++ [48 + d] := by simp [chB]
theorem len_bd {X k R : Nat} {ds : List Nat} (hX : Bd X k) (h : X = Proofs.YtjakllpnbeagjaaGreatDoor.val 10 ds + 10 ^ ds.length * R) (hR : R ≠ 0) : ds.length ≤ 10 * k := by
  have h1 : 10 ^ ds.length ≤ X := by rw [h]; exact Nat.le_trans (Nat.le_mul_of_pos_right _ (by omega)) (Nat.le_add_left _ _)
  have h2 : X < 10 ^ (10 * k) := by
    rw [Nat.pow_mul]
    exact Nat.lt_of_lt_of_le hX (Nat.pow_le_pow_left (by decide) _)
  rcases Nat.lt_or_ge (10 * k) ds.length with h3 | h3
  · have := Nat.pow_le_pow_right (n := 10) (by omega) (Nat.le_of_lt h3)
    omega
  · exact h3
theorem snoc_val {es : List Nat} {N M d : Nat} (h : N = Proofs.YtjakllpnbeagjaaGreatDoor.val 10 es + 10 ^ es.length * M) (hd : d = M % 10) : N = Proofs.YtjakllpnbeagjaaGreatDoor.val 10 (es ++ [d]) + 10 ^ (es ++ [d]).length * (M / 10) := by
  subst hd
  rw [val_snoc, List.length_append, List.length_singleton, Nat.pow_succ, h]
  have e : M = M % 10 + 10 * (M / 10) := by omega
  have e2 : 10 ^ es.length * M = 10 ^ es.length * (M % 10) + 10 ^ es.length * 10 * (M / 10) := by
    conv => lhs; rw [e]
    rw [Nat.mul_add, Nat.mul_assoc]
  omega
theorem chunk_val {ds es : List Nat} {X R Q N : Nat} (h : X = Proofs.YtjakllpnbeagjaaGreatDoor.val 10 ds + 10 ^ ds.length * R) (hR : R = N + 1000000000 * Q) (hN : N = Proofs.YtjakllpnbeagjaaGreatDoor.val 10 es) (he : es.length = 9) : X = Proofs.YtjakllpnbeagjaaGreatDoor.val 10 (ds ++ es) + 10 ^ (ds ++ es).length * Q := by
  rw [val_app, List.length_append, he, Nat.pow_add, h, hR, ← hN, Nat.mul_add, ← Nat.mul_assoc, show (10 : Nat) ^ 9 = 1000000000 by decide]
  omega
def natOf : Value → Nat
  | .int _ z => z.toNat
  | _ => 0
/-- The number that lies in a box. -/
def boxNum (w : World) (g : Nat) : Nat := match w.cell? ⟨g, 1, none⟩ with
  | some v => numOf 4294967296 w v
  | none => 0
theorem boxNum_of {w : World} {g : Nat} {b : Bool} {p : Option Addr} {n c : Nat} {z : Int} {k : Nat} (hc : w.cell? ⟨g, 1, none⟩ = some (.slice p n c)) (h : NorV w (.agg #[.bool b, .slice p n c]) z k) : boxNum w g = z.natAbs := by
  obtain ⟨p', cap, e, h2⟩ := h.nor
  simp only [Value.agg.injEq, Array.mk.injEq, List.cons.injEq, and_true, Value.slice.injEq] at e
  obtain ⟨-, rfl, rfl, rfl⟩ := e
  unfold boxNum
  rw [hc]
  exact numOf_dig (by omega) h2
set_option maxHeartbeats 8000000 in
set_option maxRecDepth 100000 in
theorem reversed_any {w : World} {v : Value} {X k : Nat} (hx : Num w v X k) (hk : k ≤ 1000) :
    Calls Tryz.prog 73 #[v] w fun e w' => ∃ v' ds, e = .returned v' ∧ OwnB w' w.heap.size v' (chB ds) ∧ All 10 ds ∧ Proofs.YtjakllpnbeagjaaGreatDoor.val 10 ds = X ∧ ds.length ≤ 10 * k + 9 ∧ w.grownBy w' none := by
  have bX := Lib.hid hx.bd
  have Hx := Lib.hid (show IntV w (.agg #[.bool false, v]) (X : Int) k from ⟨false, v, X, rfl, hx, rfl⟩)
  have S : St w [] [] w := St.start w
  obtain ⟨p, n, c, rfl⟩ := hx.slice
  clear hx
  go_enter Tryz.func73, Tryz.ntmps73
  go_wp2_with fail
  with_reducible refine (Norm_g Hx.out (by omega)).mono ?_
  rintro e w1 ⟨b1, p1, n1, c1, rfl, h, g⟩
  have N1 := Lib.hid h
  replace S := S.step g
  clear h g
  go_wp2_with fail
  obtain ⟨ten, hten⟩ : ∃ t : Int, 1000000000 = t := ⟨_, rfl⟩
  have T9 := Lib.hid hten
  with_reducible refine (Of_g 1000000000 (by decide) (by decide) hten).mono ?_
  clear hten
  rintro e w2 ⟨b2, p2, n2, c2, rfl, h, g⟩
  have N2 := Lib.hid h
  replace N1 := Lib.hid (N1.out.grown g)
  replace S := S.step g
  have z2 := S.size
  clear h g
  replace S := S.made (w2.heap.size) [.bool b1, .slice p1 n1 c1] 24 (by simp)
  replace S : St w [(w2.heap.size + 1, 0, .bool b2), (w2.heap.size + 1, 1, .slice p2 n2 c2), (w2.heap.size, 0, .bool b1), (w2.heap.size, 1, .slice p1 n1 c1)] [(w2.heap.size, 0), (w2.heap.size, 1)] _ := S.box (w2.heap.size + 1) [.bool b2, .slice p2 n2 c2] 24 (by simp)
  replace N1 := Lib.hid ((N1.out.grown (grown_alloc w2 (.cells #[.bool b1, .slice p1 n1 c1] 24) none)).grown (grown_alloc _ (.cells #[.bool b2, .slice p2 n2 c2] 24) none))
  replace N2 := Lib.hid ((N2.out.grown (grown_alloc w2 (.cells #[.bool b1, .slice p1 n1 c1] 24) none)).grown (grown_alloc _ (.cells #[.bool b2, .slice p2 n2 c2] 24) none))
  go_wp2_with fail
  have z3 : ((w2.alloc (.cells #[.bool b1, .slice p1 n1 c1] 24)).alloc (.cells #[.bool b2, .slice p2 n2 c2] 24)).heap.size = w2.heap.size + 2 := by simp
  generalize (w2.alloc (.cells #[.bool b1, .slice p1 n1 c1] 24)).alloc (.cells #[.bool b2, .slice p2 n2 c2] 24) = W3 at *
  obtain ⟨g4, hg4⟩ : ∃ g, w2.heap.size = g := ⟨_, rfl⟩
  rw [hg4] at S z2 z3 ⊢
  clear hg4
  go_loopw [3] (fun ov wr => ∃ (ds : List Nat) (R : Nat) (b : Bool) (p : Option Addr) (n c : Nat), Hid (OwnB wr w.heap.size ov (chB ds)) ∧ Hid (All 10 ds) ∧ Hid (X = Proofs.YtjakllpnbeagjaaGreatDoor.val 10 ds + 10 ^ ds.length * R) ∧ ds.length ≤ 10 * k + 9 ∧
    Hid (NorV wr (.agg #[.bool b, .slice p n c]) (R : Int) k) ∧ Hid (NorV wr (.agg #[.bool b2, .slice p2 n2 c2]) ten 2) ∧ g4 + 1 < wr.heap.size ∧
    Hid (St w [(g4 + 1, 0, .bool b2), (g4 + 1, 1, .slice p2 n2 c2), (g4, 0, .bool b), (g4, 1, .slice p n c)] [(g4, 0), (g4, 1)] wr)) (fun _ wr => boxNum wr g4)
  case atStart => exact ⟨[], X, b1, p1, n1, c1, Lib.hid (OwnB.nil _ _), Lib.hid (All.nil _), Lib.hid (by simp [Proofs.YtjakllpnbeagjaaGreatDoor.val]), by simp, N1, N2, by omega, Lib.hid S⟩
  case round =>
    obtain ⟨ds, R, b, p, n, c, HO, HA, HX, hl, NZ, NT, hsz, S1⟩ := hrel
    clear S N1 N2
    have S := S1.out
    have S0 := S1
    have NZ0 := NZ
    clear S1
    have l0 := S.ltc (g := g4 + 1) (o := 0) (x := .bool b2) (by simp)
    have l1 := S.ltc (g := g4) (o := 0) (x := .bool b) (by simp)
    obtain ⟨e0, e1, e2, e3, i0, i1, i2, i3, G⟩ := id S
    by_cases h0 : R = 0
    · subst h0
      go_wp2_with fail
      with_reducible refine (Zero_z true NZ.out.nor (by simp)).mono ?_
      rintro e w4 ⟨rfl, g⟩
      have HX2 : Hid (Proofs.YtjakllpnbeagjaaGreatDoor.val 10 ds = X) := Lib.hid (by rw [HX.out]; simp)
      have HO2 := Lib.hid (HO.out.grown g (.inl rfl))
      have G2 := Lib.hid (grown_trans G g)
      clear e0 e1 e2 e3 i0 i1 i2 i3 G g
      go_wp2_with fail
      go_ret
      exact ⟨_, ds, rfl, HO2.out, HA.out, HX2.out, hl, G2.out⟩
    · go_wp2_with fail
      with_reducible refine (Zero_z false NZ.out.nor (by simp; omega)).mono ?_
      rintro e w4 ⟨rfl, g⟩
      replace S := S.step g
      replace NZ := Lib.hid (NZ.out.grown g)
      replace NT := Lib.hid (NT.out.grown g)
      replace HO := Lib.hid (HO.out.grown g (.inl rfl))
      clear e0 e1 e2 e3 i0 i1 i2 i3 G l0 l1
      have l0 := S.ltc (g := g4 + 1) (o := 0) (x := .bool b2) (by simp)
      have l1 := S.ltc (g := g4) (o := 0) (x := .bool b) (by simp)
      have lS := S.size
      obtain ⟨e0, e1, e2, e3, i0, i1, i2, i3, G⟩ := id S
      go_wp2_with fail
      clear e0 e1 e2 e3 i0 i1 i2 i3 G
      obtain ⟨g6, hg6⟩ : ∃ g, w4.heap.size = g := ⟨_, rfl⟩
      have ga := grown_alloc w4 (.cells #[.bool false, .slice none 0 0] 24) none
      replace S : St w [(g6, 0, .bool false), (g6, 1, .slice none 0 0), (g4 + 1, 0, .bool b2), (g4 + 1, 1, .slice p2 n2 c2), (g4, 0, .bool b), (g4, 1, .slice p n c)] [(g6, 0), (g6, 1), (g4, 0), (g4, 1)] _ := S.made g6 [.bool false, .slice none 0 0] 24 hg6
      replace NZ := Lib.hid (NZ.out.grown ga)
      replace NT := Lib.hid (NT.out.grown ga)
      replace HO := Lib.hid (HO.out.grown ga (.inl rfl))
      have s6 : (w4.alloc (.cells #[.bool false, .slice none 0 0] 24)).heap.size = g6 + 1 := by simp [hg6]
      rw [hg6] at l0 l1 lS ⊢
      clear ga g hg6
      generalize (w4.alloc (.cells #[.bool false, .slice none 0 0] 24)) = W4 at *
      obtain ⟨q, hq⟩ : ∃ q : Int, (R : Int) / ten = q := ⟨_, rfl⟩
      obtain ⟨r, hr⟩ : ∃ r : Int, (R : Int) % ten = r := ⟨_, rfl⟩
      have HQ := Lib.hid hq
      have HR := Lib.hid hr
      clear hq hr
      with_reducible refine (DivMod_g NZ.out.i NT.out.i (by omega) (by rw [← T9.out]; omega) HQ.out HR.out).mono ?_
      rintro e w5 ⟨b5, p5, n5, c5, b6, p6, n6, c6, rfl, h5, h6, g⟩
      replace S := S.step g
      replace HO := Lib.hid (HO.out.grown g (.inl rfl))
      replace NT := Lib.hid (NT.out.grown g)
      obtain ⟨Q, hQ⟩ : ∃ Q : Nat, (R : Int) / ten = (Q : Int) := ⟨R / 1000000000, by rw [← T9.out]; omega⟩
      obtain ⟨N, hN⟩ : ∃ N : Nat, (R : Int) % ten = (N : Int) := ⟨R % 1000000000, by rw [← T9.out]; omega⟩
      have hQN : R = N + 1000000000 * Q ∧ N < 1000000000 := by rw [← T9.out] at hQ hN; omega
      have hQ2 : q = (Q : Int) := by rw [← HQ.out, hQ]
      have hN2 : r = (N : Int) := by rw [← HR.out, hN]
      subst hQ2 hN2
      have HX3 := Lib.hid (len_bd bX.out HX.out h0)
      have N5 : Hid (NorV w5 (.agg #[.bool b5, .slice p5 n5 c5]) (Q : Int) k) := Lib.hid ⟨h5.nor, NZ.out.bdd.le (by simp; omega)⟩
      have N6 := Lib.hid h6
      clear h5 h6 g hQ hN NZ
      have z5 := S.ltc (g := g6) (o := 0) (x := .bool false) (by simp)
      obtain ⟨e0, e1, e2, e3, e4, e5, i0, i1, i2, i3, i4, i5, i6, i7, G⟩ := id S
      go_wp2_with fail
      clear e0 e1 e2 e3 e4 e5 i0 i1 i2 i3 i4 i5 i6 i7 G
      have q0 := S.cell (g := g4) (o := 0) (x := .bool b) (by simp)
      have S1 := S.set (g := g4) (o := 0) (.bool b5) (cs' := [(g6, 0, .bool false), (g6, 1, .slice none 0 0), (g4 + 1, 0, .bool b2), (g4 + 1, 1, .slice p2 n2 c2), (g4, 1, .slice p n c)]) (by simp) (by simp <;> omega) (by omega)
      have A1 := HO.out.set (.bool b5) q0 noB_bool
      have K1 := Kp.set (u := .bool b5) q0 (by simp)
      have q1 := S1.cell (g := g4) (o := 1) (x := .slice p n c) (by simp)
      have S2 := S1.set (g := g4) (o := 1) (.slice p5 n5 c5) (cs' := [(g4, 0, .bool b5), (g6, 0, .bool false), (g6, 1, .slice none 0 0), (g4 + 1, 0, .bool b2), (g4 + 1, 1, .slice p2 n2 c2)]) (by simp) (by simp <;> omega) (by omega)
      have A2 := A1.set (.slice p5 n5 c5) q1 noB_slice
      have K2 := K1.trans (Kp.set (u := .slice p5 n5 c5) q1 (by simp))
      have q2 := S2.cell (g := g6) (o := 0) (x := .bool false) (by simp)
      have S3 := S2.set (g := g6) (o := 0) (.bool b6) (cs' := [(g4, 0, .bool b5), (g4, 1, .slice p5 n5 c5), (g6, 1, .slice none 0 0), (g4 + 1, 0, .bool b2), (g4 + 1, 1, .slice p2 n2 c2)]) (by simp) (by simp <;> omega) (by omega)
      have A3 := A2.set (.bool b6) q2 noB_bool
      have K3 := K2.trans (Kp.set (u := .bool b6) q2 (by simp))
      have q3 := S3.cell (g := g6) (o := 1) (x := .slice none 0 0) (by simp)
      have S4 := S3.set (g := g6) (o := 1) (.slice p6 n6 c6) (cs' := [(g6, 0, .bool b6), (g4, 0, .bool b5), (g4, 1, .slice p5 n5 c5), (g4 + 1, 0, .bool b2), (g4 + 1, 1, .slice p2 n2 c2)]) (by simp) (by simp <;> omega) (by omega)
      have A4 := A3.set (.slice p6 n6 c6) q3 noB_slice
      have K4 := K3.trans (Kp.set (u := .slice p6 n6 c6) q3 (by simp))
      clear q0 q1 q2 q3 S1 S2 S3 A1 A2 A3 K1 K2 K3 S HO
      replace NT := Lib.hid (NT.out.kp K4)
      replace N5 := Lib.hid (N5.out.kp K4)
      replace N6 := Lib.hid (N6.out.kp K4)
      replace S4 := S4.sub (cs' := [(g4 + 1, 0, .bool b2), (g4 + 1, 1, .slice p2 n2 c2), (g4, 0, .bool b5), (g4, 1, .slice p5 n5 c5)]) (fs' := [(g4, 0), (g4, 1)]) (by simp) (by simp)
      have HO := Lib.hid A4
      clear K4 A4
      have s7 : ((((w5.setCell ⟨g4, 0, none⟩ (.bool b5)).setCell ⟨g4, 1, none⟩ (.slice p5 n5 c5)).setCell ⟨g6, 0, none⟩ (.bool b6)).setCell ⟨g6, 1, none⟩ (.slice p6 n6 c6)).heap.size = w5.heap.size := by simp
      generalize ((((w5.setCell ⟨g4, 0, none⟩ (.bool b5)).setCell ⟨g4, 1, none⟩ (.slice p5 n5 c5)).setCell ⟨g6, 0, none⟩ (.bool b6)).setCell ⟨g6, 1, none⟩ (.slice p6 n6 c6)) = W6 at *
      have hN9 := hQN.2
      with_reducible refine (Small_yes N6.out.i (by omega) (by simp; omega)).mono ?_
      rintro e w7 ⟨rfl, g⟩
      have S := Lib.hid (S4.step g)
      replace NT := Lib.hid (NT.out.grown g)
      replace N5 := Lib.hid (N5.out.grown g)
      replace HO := Lib.hid (HO.out.grown g (.inl rfl))
      have s8 := g.size
      have HQN := Lib.hid hQN
      clear S4 g N6 hQN
      go_wp2_with fail
      go_loopw [3, 7, 28] (fun ov nv iv wr => ∃ (es : List Nat) (M : Nat), iv = .int .i64 (es.length : Int) ∧ nv = .int .i64 (M : Int) ∧ M < 1000000000 ∧ es.length ≤ 9 ∧ Hid (OwnB wr w.heap.size ov (chB (ds ++ es))) ∧ Hid (All 10 es) ∧ Hid (N = Proofs.YtjakllpnbeagjaaGreatDoor.val 10 es + 10 ^ es.length * M) ∧
        Hid (NorV wr (.agg #[.bool b5, .slice p5 n5 c5]) (Q : Int) k) ∧ Hid (NorV wr (.agg #[.bool b2, .slice p2 n2 c2]) ten 2) ∧ g4 + 1 < wr.heap.size ∧
        Hid (St w [(g4 + 1, 0, .bool b2), (g4 + 1, 1, .slice p2 n2 c2), (g4, 0, .bool b5), (g4, 1, .slice p5 n5 c5)] [(g4, 0), (g4, 1)] wr)) (fun _ _ iv _ => 9 - natOf iv)
      case atStart => exact ⟨[], N, rfl, rfl, hN9, by simp, by rw [List.append_nil]; exact HO, Lib.hid (All.nil _), Lib.hid (by simp [Proofs.YtjakllpnbeagjaaGreatDoor.val]), N5, NT, by omega, S⟩
      case round =>
        obtain ⟨es, M, rfl, rfl, hM, hj, HO, HE, HN, N5, NT, hsz, S⟩ := hrel
        obtain ⟨op, ocap, rfl⟩ := HO.out.slice
        obtain ⟨m, hm⟩ : ∃ m, (chB (ds ++ es)).length = m := ⟨_, rfl⟩
        obtain ⟨j, hjj⟩ : ∃ j, es.length = j := ⟨_, rfl⟩
        have hm9 : m ≤ 10 * k + 18 := by rw [← hm, chB_len, List.length_append]; omega
        have HO2 : Hid (OwnB wr w.heap.size (.slice op m ocap) (chB (ds ++ es))) := Lib.hid (hm ▸ HO.out)
        have Hm := Lib.hid hm
        have Hj := Lib.hid hjj
        rw [hm, hjj]
        rw [hjj] at hj
        clear HO hm hjj
        have l0 := S.out.size
        by_cases hlt : j < 9
        · have hi : (j : Int) < 9 := by omega
          have d1 : M % 10 < 10 := by omega
          go_wp2_with (at_builtin; refine wp_append_b rfl _ _ rfl w.heap.size (.slice op m ocap) (chB (ds ++ es)) rfl (HO2.out.grown (grown_alloc _ _ none) (.inl rfl)) (48 + M % 10) wr.heap.size rfl ?c1 (by simp; omega) (by have := Hm.out; omega) ?_; (case c1 => exact (World.cell?_alloc_at _ _ _ _ rfl).trans (by simp)); intro v' w3 ho3 g3; have Ho3 := Lib.hid ho3; have G3 := Lib.hid g3; clear ho3 g3)
          have HA3 := HO2.out.grown (grown_alloc wr (.cells #[Value.int IntKind.u8 (48 + (M : Int) % 10)] 5) none) (.inl rfl)
          have S3 := Lib.hid (HA3.st (S.out.step (grown_alloc wr (.cells #[Value.int IntKind.u8 (48 + (M : Int) % 10)] 5) none)) G3.out (Nat.le_refl _) (by intro c hc; simp only [List.mem_cons, List.not_mem_nil, or_false] at hc; rcases hc with rfl | rfl | rfl | rfl <;> first | exact noB_bool | exact noB_slice) (by intro f hf; simp only [List.mem_cons, List.not_mem_nil, or_false] at hf; rcases hf with rfl | rfl; exact ⟨.bool b5, by simp⟩; exact ⟨.slice p5 n5 c5, by simp⟩))
          have Kq3 := (Kp.of (grown_alloc wr (.cells #[Value.int IntKind.u8 (48 + (M : Int) % 10)] 5) none)).q.trans (HA3.kq G3.out)
          replace N5 := Lib.hid (N5.out.kq Kq3)
          replace NT := Lib.hid (NT.out.kq Kq3)
          have s3 := Kq3.1
          have Ho4 : Hid (OwnB w3 w.heap.size v' (chB (ds ++ (es ++ [M % 10])))) := by rw [← List.append_assoc, chB_snoc]; exact Ho3
          have HE4 : Hid (All 10 (es ++ [M % 10])) := Lib.hid (HE.out.app (All.cons d1 (All.nil _)))
          have HN4 := Lib.hid (snoc_val HN.out rfl)
          clear HA3 Kq3
          go_roundw
          case rel => exact ⟨es ++ [M % 10], M / 10, int_eq (by rw [List.length_append, Hj.out]; simp), int_eq (by omega), by omega, by rw [List.length_append, Hj.out]; simp; omega, Ho4, HE4, HN4, N5, NT, by omega, S3⟩
          case measure => simp [natOf]; omega
        · have hi : ¬ (j : Int) < 9 := by omega
          have hj9 : j = 9 := by omega
          have hM0 : M = 0 := by
            have h1 := HN.out
            rw [Hj.out, hj9] at h1
            rcases Nat.eq_zero_or_pos M with h2 | h2
            · exact h2
            · have h3 : 10 ^ 9 * 1 ≤ 10 ^ 9 * M := Nat.mul_le_mul_left _ h2
              have h4 : (10 : Nat) ^ 9 = 1000000000 := by decide
              omega
          have HX4 := Lib.hid (chunk_val HX.out HQN.out.1 (by rw [HN.out, hM0]; simp) (Hj.out.trans hj9))
          have HA4 := Lib.hid (HA.out.app HE.out)
          have hl4 : (ds ++ es).length ≤ 10 * k + 9 := by rw [List.length_append, Hj.out, hj9]; have := HX3.out; omega
          have m0 := boxNum_of (S0.out.cell (g := g4) (o := 1) (x := .slice p n c) (by simp)) NZ0.out
          have m1 := boxNum_of (S.out.cell (g := g4) (o := 1) (x := .slice p5 n5 c5) (by simp)) N5.out
          have hQR : Q < R := by have := HQN.out; omega
          go_wp2_with fail
          go_roundw
          case rel => exact ⟨ds ++ es, Q, b5, p5, n5, c5, (Hm.out.symm ▸ HO2 : _), HA4, HX4, hl4, N5, NT, hsz, S⟩
          case measure => rw [m0, m1]; simp; exact hQR
end Go.Proofs.YtjakllpnbeagjaaGreatDoor
