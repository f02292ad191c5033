/- Package digits: allDigits, value, Parse. -/
import Derived.Test.YtjakllpnbeagjaaGreatDoorRats
import Derived.Test.YtjakllpnbeagjaaGreatDoorShelf
import Derived.Lib.ConvBytes
namespace Go.Proofs.YtjakllpnbeagjaaGreatDoor
open Go.RowKit

/-- Digits alone. -/
def allD (l : List UInt8) : Bool := l.all fun c => decide (48 ≤ c.toNat) && decide (c.toNat ≤ 57)
/-- The number that they spell, behind acc. -/
def decN (acc : Nat) (l : List UInt8) : Nat := l.foldl (fun a c => a * 10 + (c.toNat - 48)) acc
theorem decFrom_of : ∀ (l : List UInt8) (acc : Nat), allD l = true → Lib.decFrom acc l = some (decN acc l)
  | [], _, _ => rfl
  | c :: l, acc, h => by
    simp only [allD, List.all_cons, Bool.and_eq_true, decide_eq_true_eq] at h
    have ih := decFrom_of l (acc * 10 + (c.toNat - 48)) (by simpa [allD] using h.2)
    simp only [Lib.decFrom, Lib.digitVal, if_pos h.1, ih, decN, List.foldl_cons]
theorem atoi_of {l : List UInt8} (h : allD l = true) (h0 : l ≠ []) : Lib.atoi l = some (decN 0 l : Int) := by
  cases l with
  | nil => exact absurd rfl h0
  | cons c l =>
    have hc : 48 ≤ c.toNat := by simp only [allD, List.all_cons, Bool.and_eq_true, decide_eq_true_eq] at h; exact h.1.1
    have h1 : (c == 45) = false := by rw [beq_eq_false_iff_ne]; rintro rfl; exact absurd hc (by decide)
    have h2 : (c == 43) = false := by rw [beq_eq_false_iff_ne]; rintro rfl; exact absurd hc (by decide)
    simp [Lib.atoi, h1, h2, Lib.decNat, decFrom_of _ _ h]
theorem decN_app (a : Nat) (l m : List UInt8) : decN a (l ++ m) = decN (decN a l) m := List.foldl_append ..
theorem decN_acc : ∀ (l : List UInt8) (a : Nat), decN a l = a * 10 ^ l.length + decN 0 l
  | [], a => by simp [decN]
  | c :: l, a => by
    have h1 := decN_acc l (a * 10 + (c.toNat - 48))
    have h2 := decN_acc l (0 * 10 + (c.toNat - 48))
    simp only [decN, List.foldl_cons] at h1 h2 ⊢
    rw [h1, h2, List.length_cons, Nat.pow_succ]
    have e : (a * 10 + (c.toNat - 48)) * 10 ^ l.length = a * (10 ^ l.length * 10) + (0 * 10 + (c.toNat - 48)) * 10 ^ l.length := by grind
    omega
theorem decN_lt : ∀ (l : List UInt8), allD l = true → decN 0 l < 10 ^ l.length
  | [], _ => by simp [decN]
  | c :: l, h => by
    simp only [allD, List.all_cons, Bool.and_eq_true, decide_eq_true_eq] at h
    have ih := decN_lt l (by simpa [allD] using h.2)
    have h1 := decN_acc l (0 * 10 + (c.toNat - 48))
    simp only [decN, List.foldl_cons] at h1 ih ⊢
    rw [h1, List.length_cons, Nat.pow_succ]
    have h3 : (0 * 10 + (c.toNat - 48)) * 10 ^ l.length ≤ 9 * 10 ^ l.length := Nat.mul_le_mul_right _ (by omega)
    generalize (0 * 10 + (c.toNat - 48)) * 10 ^ l.length = A at h3 ⊢
    generalize 10 ^ l.length = B at ih h3 ⊢
    have ih2 : List.foldl (fun a c => a * 10 + (c.toNat - 48)) 0 l < B := ih
    omega
theorem allD_take {l : List UInt8} (h : allD l = true) (k : Nat) : allD (l.take k) = true := by
  simp only [allD, List.all_eq_true] at h ⊢
  exact fun c hc => h c (List.mem_of_mem_take hc)
theorem allD_drop {l : List UInt8} (h : allD l = true) (k : Nat) : allD (l.drop k) = true := by
  simp only [allD, List.all_eq_true] at h ⊢
  exact fun c hc => h c (List.mem_of_mem_drop hc)
theorem bd_ten {X k : Nat} (h : X < 10 ^ k) : Bd X (k / 9 + 1) := by
  unfold Bd
  have h1 : k ≤ 9 * (k / 9 + 1) := by omega
  have h2 : (10 : Nat) ^ k ≤ 10 ^ (9 * (k / 9 + 1)) := Nat.pow_le_pow_right (by omega) h1
  rw [Nat.pow_mul] at h2
  have h3 : ((10 : Nat) ^ 9) ^ (k / 9 + 1) ≤ 4294967296 ^ (k / 9 + 1) := Nat.pow_le_pow_left (by decide) _
  omega

theorem bd_digits {X n : Nat} (h : X < 10 ^ n) (hn : n ≤ 400) : Bd X 50 := (bd_ten h).more (by omega)
def strLen : Value → Nat
  | .string s => s.size
  | _ => 0
theorem bytes_grown (w : World) (t : TypeId) (s : ByteArray) : w.grownBy (Lib.bytesWorld w t s) none :=
  ⟨rfl, rfl, rfl, by rw [Lib.bytesWorld_size]; omega, fun i hi _ => Lib.bytesWorld_at_old w t s i hi⟩
theorem decN_next {l : List UInt8} {k q : Nat} (hk : k = 0 ∨ q = 9) (hq : k + q ≤ l.length) : (decN 0 (l.take k) : Int) * 1000000000 + (decN 0 ((l.drop k).take q) : Int) = (decN 0 (l.take (k + q)) : Int) := by
  rw [List.take_add, decN_app]
  rcases hk with rfl | rfl
  · simp [decN]
  · have h9 : ((l.drop k).take 9).length = 9 := by rw [List.length_take, List.length_drop]; omega
    have h := decN_acc ((l.drop k).take 9) (decN 0 (l.take k))
    rw [h9] at h
    rw [h, Int.natCast_add, Int.natCast_mul, show ((10 ^ 9 : Nat) : Int) = 1000000000 by decide]
set_option maxHeartbeats 8000000 in
set_option maxRecDepth 100000 in
theorem value_g {s : ByteArray} {w : World} (hd : allD s.data.toList = true) (hl : s.size ≤ 400) :
    Calls Tryz.prog 50 #[.string s] w (GotI w (decN 0 s.data.toList : Int) 50) := by
  have S : St w [] [] w := St.start w
  have HD := Lib.hid hd
  clear hd
  go_enter Tryz.func50, Tryz.ntmps50
  go_wp2_with fail
  with_reducible refine (Of_g 0 (by decide) (by decide) rfl).mono ?_
  rintro e w1 ⟨b1, p1, n1, c1, rfl, h, g⟩
  have N1 := Lib.hid h
  have z1 := g.size
  simp only [World.size_alloc] at z1
  replace S : St w [(w.heap.size, 0, .bool false), (w.heap.size, 1, .slice none 0 0)] [(w.heap.size, 0), (w.heap.size, 1)] w1 := (S.made (w.heap.size) [.bool false, .slice none 0 0] 24 (by simp)).step g
  clear h g
  go_wp2_with fail
  obtain ⟨ten, hten⟩ : ∃ t : Int, 1000000000 = t := ⟨_, rfl⟩
  have T9 := Lib.hid hten
  with_reducible refine (Of_g 1000000000 (by decide) (by decide) hten).mono ?_
  clear hten
  rintro e w2 ⟨b2, p2, n2, c2, rfl, h, g⟩
  have N2 := Lib.hid h
  replace N1 := Lib.hid (N1.out.grown g)
  have z2 := g.size
  replace S := S.step g
  clear h g
  replace S := S.made (w2.heap.size) [.bool b1, .slice p1 n1 c1] 24 (by simp)
  replace S : St w [(w2.heap.size + 1, 0, .bool b2), (w2.heap.size + 1, 1, .slice p2 n2 c2), (w2.heap.size, 0, .bool b1), (w2.heap.size, 1, .slice p1 n1 c1), (w.heap.size, 0, .bool false), (w.heap.size, 1, .slice none 0 0)] [(w2.heap.size, 0), (w2.heap.size, 1), (w.heap.size, 0), (w.heap.size, 1)] _ := S.box (w2.heap.size + 1) [.bool b2, .slice p2 n2 c2] 24 (by simp)
  replace N1 := Lib.hid ((N1.out.grown (grown_alloc w2 (.cells #[.bool b1, .slice p1 n1 c1] 24) none)).grown (grown_alloc _ (.cells #[.bool b2, .slice p2 n2 c2] 24) none))
  replace N2 := Lib.hid ((N2.out.grown (grown_alloc w2 (.cells #[.bool b1, .slice p1 n1 c1] 24) none)).grown (grown_alloc _ (.cells #[.bool b2, .slice p2 n2 c2] 24) none))
  go_wp2_with fail
  have z3 : ((w2.alloc (.cells #[.bool b1, .slice p1 n1 c1] 24)).alloc (.cells #[.bool b2, .slice p2 n2 c2] 24)).heap.size = w2.heap.size + 2 := by simp
  generalize (w2.alloc (.cells #[.bool b1, .slice p1 n1 c1] 24)).alloc (.cells #[.bool b2, .slice p2 n2 c2] 24) = W3 at *
  go_loopw [0] (fun sv wr => ∃ (k : Nat) (m : ByteArray) (z : Int) (b : Bool) (p : Option Addr) (n c : Nat), sv = .string m ∧ m.size + k = s.size ∧ (k = 0 ∨ m.size % 9 = 0) ∧ Hid (m.data.toList = s.data.toList.drop k) ∧ Hid (z = (decN 0 (s.data.toList.take k) : Int)) ∧
    Hid (NorV wr (.agg #[.bool b, .slice p n c]) z 50) ∧ Hid (NorV wr (.agg #[.bool b2, .slice p2 n2 c2]) ten 2) ∧
    Hid (St w [(w2.heap.size + 1, 0, .bool b2), (w2.heap.size + 1, 1, .slice p2 n2 c2), (w2.heap.size, 0, .bool b), (w2.heap.size, 1, .slice p n c), (w.heap.size, 0, .bool false), (w.heap.size, 1, .slice none 0 0)] [(w2.heap.size, 0), (w2.heap.size, 1), (w.heap.size, 0), (w.heap.size, 1)] wr)) (fun sv _ => strLen sv)
  case atStart => exact ⟨0, s, 0, b1, p1, n1, c1, rfl, by omega, .inl rfl, Lib.hid rfl, Lib.hid (by simp [decN]), N1.out.more (by omega), N2.out, S⟩
  case round =>
    obtain ⟨k, m, z, b, p, n, c, rfl, hm, h9, TL, Z, NZ, NT, S1⟩ := hrel
    clear S N1 N2
    have S := S1.out
    have l0 := S.ltc (g := w2.heap.size + 1) (o := 0) (x := .bool b2) (by simp)
    have l1 := S.ltc (g := w2.heap.size) (o := 0) (x := .bool b) (by simp)
    have l2 := S.ltc (g := w.heap.size) (o := 0) (x := .bool false) (by simp)
    clear S1
    by_cases h0 : 0 < m.size
    · have k0 : (0 : Int) < (m.size : Int) := by omega
      have k400 : m.size ≤ 400 := by omega
      obtain ⟨q, hq⟩ : ∃ q, (m.size - 1) % 9 + 1 = q := ⟨_, rfl⟩
      have q1 : 1 ≤ q := by omega
      have q2 : q ≤ m.size := by omega
      have q3 : k = 0 ∨ q = 9 := by omega
      have q4 : q ≤ 9 := by omega
      have q5 : (q : Int) ≤ (m.size : Int) := by omega
      have hqi : ((m.size : Int) - 1) % 9 + 1 = (q : Int) := by omega
      clear hq
      obtain ⟨e0, e1, e2, e3, e4, e5, i0, i1, i2, i3, i4, i5, i6, i7, G⟩ := id S
      go_wp2_with fail
      have ht : (m.extract 0 q).data.toList = m.data.toList.take q := by rw [Lib.extract_data]; simp
      have ha : allD (m.extract 0 q).data.toList = true := by rw [ht, TL.out]; exact allD_take (allD_drop HD.out k) q
      have hs : (m.extract 0 q).size ≤ 18 := by rw [ByteArray.size_extract]; omega
      have hne : (m.extract 0 q).data.toList ≠ [] := by
        intro h
        have := congrArg List.length h
        rw [ht, List.length_take, ← Lib.size_eq, List.length_nil] at this
        omega
      obtain ⟨x, hx⟩ : ∃ x : Nat, decN 0 (m.extract 0 q).data.toList = x := ⟨_, rfl⟩
      have hat : Lib.atoi (m.extract 0 q).data.toList = some (x : Int) := by rw [atoi_of ha hne, hx]
      have hx9 : x < 1000000000 := by
        have := decN_lt _ ha
        rw [hx, ht, List.length_take] at this
        exact Nat.lt_of_lt_of_le this (show _ ≤ 10 ^ 9 from Nat.pow_le_pow_right (by omega) (by omega))
      have X := Lib.hid (show (x : Int) = (decN 0 ((s.data.toList.drop k).take q) : Int) by rw [← hx, ht, TL.out])
      clear e0 e1 e2 e3 e4 e5 i0 i1 i2 i3 i4 i5 i6 i7 G ht ha hne hx
      with_reducible refine (Tryz.strconv_Atoi _ _ hs hat _).mono ?_
      rintro e w4 ⟨rfl, tt, rfl⟩
      have g := bytes_grown wr 5 tt
      replace S := S.step g
      replace NZ := Lib.hid (NZ.out.grown g)
      replace NT := Lib.hid (NT.out.grown g)
      have z4 := g.size
      clear g hat hs
      generalize Lib.bytesWorld wr 5 tt = W4 at *
      obtain ⟨e0, e1, e2, e3, e4, e5, i0, i1, i2, i3, i4, i5, i6, i7, G⟩ := id S
      go_wp2_with fail
      clear e0 e1 e2 e3 e4 e5 i0 i1 i2 i3 i4 i5 i6 i7 G
      obtain ⟨z5, hz5⟩ : ∃ t : Int, z * ten = t := ⟨_, rfl⟩
      have E5 := Lib.hid hz5
      clear hz5
      with_reducible refine (Mul_g NZ.out.i NT.out.i (by omega) E5.out).mono ?_
      rintro e w5 ⟨b5, p5, n5, c5, rfl, h, g⟩
      have N5 := Lib.hid h
      replace S := S.step g
      replace NT := Lib.hid (NT.out.grown g)
      have z6 := g.size
      clear h g
      go_wp2_with fail
      obtain ⟨z7, hz7⟩ : ∃ t : Int, (x : Int) = t := ⟨_, rfl⟩
      have E7 := Lib.hid hz7
      clear hz7
      have x1 : -9223372036854775808 ≤ (x : Int) := by omega
      have x2 : (x : Int) ≤ 9223372036854775807 := by omega
      with_reducible refine (Of_g (x : Int) x1 x2 E7.out).mono ?_
      rintro e w6 ⟨b6, p6, n6, c6, rfl, h, g⟩
      have N6 := Lib.hid h
      replace S := S.step g
      replace NT := Lib.hid (NT.out.grown g)
      replace N5 := Lib.hid (N5.out.grown g)
      have z8 := g.size
      clear h g
      go_wp2_with fail
      obtain ⟨z9, hz9⟩ : ∃ t : Int, z5 + z7 = t := ⟨_, rfl⟩
      have E9 := Lib.hid hz9
      clear hz9
      with_reducible refine (Add_g N5.out.i N6.out.i (by omega) E9.out).mono ?_
      rintro e w7 ⟨b7, p7, n7, c7, rfl, h, g⟩
      have N7 := Lib.hid h
      replace S := S.step g
      replace NT := Lib.hid (NT.out.grown g)
      have z10 := g.size
      clear h g
      have l3 := S.ltc (g := w2.heap.size + 1) (o := 0) (x := .bool b2) (by simp)
      obtain ⟨e0, e1, e2, e3, e4, e5, i0, i1, i2, i3, i4, i5, i6, i7, G⟩ := id S
      have HL : Hid ((m.extract q m.size).data.toList = s.data.toList.drop (k + q)) := by rw [Lib.extract_to_end, TL.out, List.drop_drop]; exact Lib.hid rfl
      have HZ : Hid (z9 = (decN 0 (s.data.toList.take (k + q)) : Int)) := by
        rw [← E9.out, ← E5.out, ← E7.out, ← T9.out, X.out, Z.out]
        exact decN_next q3 (by rw [← Lib.size_eq]; omega)
      have HB : Hid (NorV w7 (.agg #[.bool b7, .slice p7 n7 c7]) z9 50) := ⟨N7.out.1, by
        rw [HZ.out, Int.natAbs_natCast]
        exact bd_digits (decN_lt _ (allD_take HD.out _)) (by rw [List.length_take, ← Lib.size_eq]; omega)⟩
      have K1 : Kp w7 ((w7.setCell ⟨w2.heap.size, 0, none⟩ (.bool b7)).setCell ⟨w2.heap.size, 1, none⟩ (.slice p7 n7 c7)) := Kp.set2 (S.cell (g := w2.heap.size) (o := 0) (x := .bool b) (by simp)) (S.cell (g := w2.heap.size) (o := 1) (x := .slice p n c) (by simp)) (by simp) (by simp)
      have S8 := S.set (g := w2.heap.size) (o := 0) (.bool b7) (cs' := [(w2.heap.size + 1, 0, .bool b2), (w2.heap.size + 1, 1, .slice p2 n2 c2), (w2.heap.size, 1, .slice p n c), (w.heap.size, 0, .bool false), (w.heap.size, 1, .slice none 0 0)]) (by simp) (by simp <;> omega) (by omega)
      have S9 := S8.set (g := w2.heap.size) (o := 1) (.slice p7 n7 c7) (cs' := [(w2.heap.size, 0, .bool b7), (w2.heap.size + 1, 0, .bool b2), (w2.heap.size + 1, 1, .slice p2 n2 c2), (w.heap.size, 0, .bool false), (w.heap.size, 1, .slice none 0 0)]) (by simp) (by simp <;> omega) (by omega)
      have HS : Hid (St w [(w2.heap.size + 1, 0, .bool b2), (w2.heap.size + 1, 1, .slice p2 n2 c2), (w2.heap.size, 0, .bool b7), (w2.heap.size, 1, .slice p7 n7 c7), (w.heap.size, 0, .bool false), (w.heap.size, 1, .slice none 0 0)] [(w2.heap.size, 0), (w2.heap.size, 1), (w.heap.size, 0), (w.heap.size, 1)] _) := S9.sub (by simp) (by simp)
      have HB2 := Lib.hid (HB.out.kp K1)
      have HT := Lib.hid (NT.out.kp K1)
      clear S8 S9 K1 S HB
      have hm2 : (m.extract q m.size).size + (k + q) = s.size := by rw [ByteArray.size_extract]; omega
      have hm9 : k + q = 0 ∨ (m.extract q m.size).size % 9 = 0 := by rw [ByteArray.size_extract]; right; omega
      have hms : (m.extract q m.size).size < m.size := by rw [ByteArray.size_extract]; omega
      go_wp2_with fail
      go_roundw
      case rel => exact ⟨k + q, _, z9, b7, p7, n7, c7, rfl, hm2, hm9, HL.out, HZ.out, HB2.out, HT.out, HS.out⟩
      case measure => exact hms
    · have k0 : ¬ (0 : Int) < (m.size : Int) := by omega
      have h0' : m.size = 0 := by omega
      have HR : Hid (z = (decN 0 s.data.toList : Int)) := by rw [Z.out, List.take_of_length_le (by rw [← Lib.size_eq]; omega)]; exact Lib.hid rfl
      have K1 : Kp wr ((wr.setCell ⟨w.heap.size, 0, none⟩ (.bool b)).setCell ⟨w.heap.size, 1, none⟩ (.slice p n c)) := Kp.set2 (S.cell (g := w.heap.size) (o := 0) (x := .bool false) (by simp)) (S.cell (g := w.heap.size) (o := 1) (x := .slice none 0 0) (by simp)) (by simp) (by simp)
      have S8 := S.set (g := w.heap.size) (o := 0) (.bool b) (cs' := [(w.heap.size, 1, .slice none 0 0)]) (by simp) (by simp <;> omega) (by omega)
      have S9 := S8.set (g := w.heap.size) (o := 1) (.slice p n c) (cs' := [(w.heap.size, 0, .bool b)]) (by simp) (by simp <;> omega) (by omega)
      have HB2 := Lib.hid (NZ.out.kp K1)
      have HS := Lib.hid S9
      clear S8 S9 K1 h0'
      obtain ⟨e0, e1, e2, e3, e4, e5, i0, i1, i2, i3, i4, i5, i6, i7, G⟩ := id S
      go_wp2_with fail
      refine post_I Tryz.results50 rfl rfl (HS.out.cell (g := w.heap.size) (o := 0) (x := .bool b) (by simp)) (HS.out.cell (g := w.heap.size) (o := 1) (x := .slice p n c) (by simp)) ⟨_, _, _, _, rfl, HB2.out.eq HR.out, HS.out.all⟩

theorem allD_at {l : List UInt8} {k : Nat} (h : allD (l.drop k) = true) (hk : k < l.length) : 48 ≤ (l.getD k 0).toNat ∧ (l.getD k 0).toNat ≤ 57 ∧ allD (l.drop (k + 1)) = true := by
  rw [List.drop_eq_getElem_cons hk] at h
  simp only [allD, List.all_cons, Bool.and_eq_true, decide_eq_true_eq] at h
  rw [show l.getD k 0 = l[k] by simp [List.getD, hk]]
  exact ⟨h.1.1, h.1.2, h.2⟩
set_option maxHeartbeats 4000000 in
set_option maxRecDepth 100000 in
theorem allDigits_yes {s : ByteArray} {w : World} (hd : allD s.data.toList = true) (hl : s.size ≤ 400) :
    Calls Tryz.prog 49 #[.string s] w (Bool_ w true) := by
  have HD := Lib.hid hd
  clear hd
  have hcv := Lib.run_convert_string_bytes (P := Tryz.prog) w 9 55 5 s (u := .string) Tryz.underlying9 Tryz.underlying55 Tryz.underlying5
  go_enter Tryz.func49, Tryz.ntmps49
  go_wp2_with fail
  clear hcv
  have hB : ∀ j, j < s.size → (Lib.bytesWorld w 5 s).cell? ⟨w.heap.size, j, none⟩ = some (.int .u8 (s.data.toList.getD j 0).toNat) := fun j hj => Lib.bytesWorld_cell w 5 s j hj
  have HB := Lib.hid hB
  have HG := Lib.hid (bytes_grown w 5 s)
  clear hB
  generalize Lib.bytesWorld w 5 s = W1 at *
  go_loop [8] (fun iv => ∃ k : Nat, k ≤ s.size ∧ iv = .int .i64 (k : Int) ∧ Hid (allD (s.data.toList.drop k) = true)) (fun iv => s.size - (intOf iv).toNat)
  case atStart => exact ⟨0, Nat.zero_le _, rfl, HD.out⟩
  case round =>
    obtain ⟨k, hk, rfl, HK⟩ := hrel
    by_cases h0 : k < s.size
    · have k0 : (k : Int) < (s.size : Int) := by omega
      obtain ⟨c1, c2, c3⟩ := allD_at HK.out (by rw [← Lib.size_eq]; exact h0)
      have hc := HB.out k h0
      obtain ⟨c, hcc⟩ : ∃ c : Nat, (s.data.toList.getD k 0).toNat = c := ⟨_, rfl⟩
      rw [hcc] at c1 c2 hc
      have c4 : ¬ (c : Int) < 48 := by omega
      have c5 : ¬ (57 : Int) < (c : Int) := by omega
      have H3 := Lib.hid c3
      clear hcc c3
      go_wp2_with fail
      go_round
      case rel => exact ⟨k + 1, by omega, by go_num, H3.out⟩
      case measure => simp [intOf]; omega
    · have k0 : ¬ (k : Int) < (s.size : Int) := by omega
      go_wp2_with fail
      go_ret
      exact ⟨rfl, HG.out⟩

set_option maxHeartbeats 4000000 in
set_option maxRecDepth 100000 in
theorem Parse_plain {s : ByteArray} {w : World} (hd : allD s.data.toList = true) (hl : s.size ≤ 400) (h1 : 1 ≤ s.size) :
    Calls Tryz.prog 16 #[.string s] w (GotE w (decN 0 s.data.toList : Int) 50) := by
  have hp : Lib.hasPrefix s.data.toList [45] = false := by
    rw [Lib.size_eq] at h1
    cases h : s.data.toList with
    | nil => rw [h] at h1; simp at h1
    | cons c l =>
      rw [h] at hd
      simp only [allD, List.all_cons, Bool.and_eq_true, decide_eq_true_eq] at hd
      have : c ≠ 45 := by rintro rfl; exact absurd hd.1.1 (by decide)
      simp [Lib.hasPrefix, List.isPrefixOf, Ne.symm this]
  have ht : (⟨(Lib.trimPrefix s.data.toList [45]).toArray⟩ : ByteArray) = s := by rw [Lib.trimPrefix, hp]; simp
  have HD := Lib.hid hd
  have HT := Lib.hid ht
  have HP := Lib.hid hp
  have k1 : ¬ (s.size : Int) < 1 := by omega
  have k2 : ¬ (400 : Int) < (s.size : Int) := by omega
  clear hd ht hp
  have S : St w [(w.heap.size, 0, .bool false), (w.heap.size, 1, .slice none 0 0)] [(w.heap.size, 0), (w.heap.size, 1)] (w.alloc (.cells #[.bool false, .slice none 0 0] 24)) := (St.start w).made (w.heap.size) [.bool false, .slice none 0 0] 24 rfl
  go_enter Tryz.func16, Tryz.ntmps16
  go_wp2_with fail
  with_reducible refine (Tryz.strings_CutPrefix s ⟨#[45]⟩ _).mono ?_
  rintro e w1 ⟨rfl, rfl⟩
  rw [show (⟨#[45]⟩ : ByteArray).data.toList = [45] from rfl, HT.out, HP.out]
  go_wp2_with fail
  with_reducible refine (allDigits_yes HD.out hl).mono ?_
  rintro e w2 ⟨rfl, g⟩
  replace S := S.step g
  clear g
  go_wp2_with fail
  with_reducible refine (value_g HD.out hl).mono ?_
  rintro e w3 ⟨b3, p3, n3, c3, rfl, h, g⟩
  have N3 := Lib.hid h
  replace S := S.step g
  have l0 := S.ltc (g := w.heap.size) (o := 0) (x := .bool false) (by simp)
  clear h g
  have K1 : Kp w3 ((w3.setCell ⟨w.heap.size, 0, none⟩ (.bool b3)).setCell ⟨w.heap.size, 1, none⟩ (.slice p3 n3 c3)) := Kp.set2 (S.cell (g := w.heap.size) (o := 0) (x := .bool false) (by simp)) (S.cell (g := w.heap.size) (o := 1) (x := .slice none 0 0) (by simp)) (by simp) (by simp)
  have S8 := S.set (g := w.heap.size) (o := 0) (.bool b3) (cs' := [(w.heap.size, 1, .slice none 0 0)]) (by simp) (by simp <;> omega) (by omega)
  have S9 := S8.set (g := w.heap.size) (o := 1) (.slice p3 n3 c3) (cs' := [(w.heap.size, 0, .bool b3)]) (by simp) (by simp <;> omega) (by omega)
  have HB2 := Lib.hid ((N3.out.kp K1).grown (grown_alloc _ (.cells #[.bool b3, .slice p3 n3 c3] 24) none))
  have HS := Lib.hid (S9.step (grown_alloc _ (.cells #[.bool b3, .slice p3 n3 c3] 24) none))
  clear S8 S9 K1
  obtain ⟨e0, e1, i0, i1, i2, i3, G⟩ := id S
  go_wp2_with fail
  exact post_exact Tryz.results16 rfl rfl rfl (HS.out.cell (g := w.heap.size) (o := 0) (x := .bool b3) (by simp)) (HS.out.cell (g := w.heap.size) (o := 1) (x := .slice p3 n3 c3) (by simp)) ⟨_, _, _, _, rfl, HB2.out, HS.out.all⟩

set_option maxHeartbeats 4000000 in
set_option maxRecDepth 100000 in
theorem Natural_plain {s : ByteArray} {w : World} (hd : allD s.data.toList = true) (hl : s.size ≤ 400) (h1 : 1 ≤ s.size) (hp : Lib.hasPrefix s.data.toList [45] = false) :
    Calls Tryz.prog 67 #[.string s] w (GotE w (decN 0 s.data.toList : Int) 50) := by
  have HD := Lib.hid hd
  have HP := Lib.hid hp
  clear hd hp
  have S : St w [(w.heap.size, 0, .bool false), (w.heap.size, 1, .slice none 0 0)] [(w.heap.size, 0), (w.heap.size, 1)] (w.alloc (.cells #[.bool false, .slice none 0 0] 24)) := (St.start w).made (w.heap.size) [.bool false, .slice none 0 0] 24 rfl
  go_enter Tryz.func67, Tryz.ntmps67
  go_wp2_with fail
  with_reducible refine (Tryz.strings_HasPrefix s ⟨#[45]⟩ _).mono ?_
  rintro e w1 ⟨rfl, rfl⟩
  rw [show (⟨#[45]⟩ : ByteArray).data.toList = [45] from rfl, HP.out]
  go_wp2_with fail
  with_reducible refine (Parse_plain HD.out hl h1).mono ?_
  rintro e w3 ⟨b3, p3, n3, c3, rfl, h, g⟩
  have N3 := Lib.hid h
  replace S := S.step g
  have l0 := S.ltc (g := w.heap.size) (o := 0) (x := .bool false) (by simp)
  clear h g
  have K1 : Kp w3 ((w3.setCell ⟨w.heap.size, 0, none⟩ (.bool b3)).setCell ⟨w.heap.size, 1, none⟩ (.slice p3 n3 c3)) := Kp.set2 (S.cell (g := w.heap.size) (o := 0) (x := .bool false) (by simp)) (S.cell (g := w.heap.size) (o := 1) (x := .slice none 0 0) (by simp)) (by simp) (by simp)
  have S8 := S.set (g := w.heap.size) (o := 0) (.bool b3) (cs' := [(w.heap.size, 1, .slice none 0 0)]) (by simp) (by simp <;> omega) (by omega)
  have S9 := S8.set (g := w.heap.size) (o := 1) (.slice p3 n3 c3) (cs' := [(w.heap.size, 0, .bool b3)]) (by simp) (by simp <;> omega) (by omega)
  have HB2 := Lib.hid (N3.out.kp K1)
  have HS := Lib.hid S9
  clear S8 S9 K1
  obtain ⟨e0, e1, i0, i1, i2, i3, G⟩ := id S
  go_wp2_with fail
  exact post_exact Tryz.results67 rfl rfl rfl (HS.out.cell (g := w.heap.size) (o := 0) (x := .bool b3) (by simp)) (HS.out.cell (g := w.heap.size) (o := 1) (x := .slice p3 n3 c3) (by simp)) ⟨_, _, _, _, rfl, HB2.out, HS.out.all⟩

set_option maxHeartbeats 4000000 in
set_option maxRecDepth 100000 in
theorem Cut_in (w : World) : Calls Tryz.prog 99 #[.string ⟨#[54, 47, 52]⟩, .string ⟨#[47]⟩] w fun e w' => e = .returned (.tuple #[.string ⟨#[54]⟩, .string ⟨#[52]⟩, .bool true]) ∧ w.grownBy w' none := by
  have hi : Lib.indexByte (⟨#[54, 47, 52]⟩ : ByteArray).data.toList 47 = 1 := by decide +kernel
  go_enter Tryz.func99, Tryz.ntmps99
  go_wp2_with (go_at_call 118; (with_reducible refine (Tryz.stringslite_Index_one ⟨#[54, 47, 52]⟩ 47 _).mono ?_); rintro e w1 ⟨rfl, rfl⟩; rw [hi])
  clear hi
  go_region
  all_goals go_wp2_with fail
  all_goals (go_ret3; exact ⟨rfl, grown_drew _ _⟩)
theorem Cut_64 (w : World) : Calls Tryz.prog 66 #[.string ⟨#[54, 47, 52]⟩, .string ⟨#[47]⟩] w fun e w' => e = .returned (.tuple #[.string ⟨#[54]⟩, .string ⟨#[52]⟩, .bool true]) ∧ w.grownBy w' none := by
  go_enter Tryz.func66, Tryz.ntmps66
  go_wp2_with fail
  with_reducible refine (Cut_in _).mono ?_
  rintro e w1 ⟨rfl, g⟩
  have G := Lib.hid g
  clear g
  go_wp2_with fail
  go_ret3
  exact ⟨rfl, G.out⟩

end Go.Proofs.YtjakllpnbeagjaaGreatDoor
