/- LimbSums holds: for every slice of slices of limbs the law returns true and leaves them as they were. No condition. -/
import Derived.Test.YtkebkdmdhhpinaaRefK
import Derived.Deep.Matrix
namespace Go.Proofs.Ytkebkdmdhhpinaa.sums
open Go.Deep Go.ChangeShapes Go.WideShapes Go.ChangeAt Go.RowKit

theorem Try.infoS : (Try.prog.info? 22).map (fun i => (i.zero, i.size, i.bytes)) = some (some (.slice none 0 0), 1, 24) := by kernel_rfl
/-- The slice of a triple. -/
def tri (y : Option Addr × Nat × Nat) : Value := .slice y.1 y.2.1 y.2.2
/-- Its first k. -/
def cutT (k : Nat) (y : Option Addr × Nat × Nat) : Value := .slice y.1 (min y.2.1 k) y.2.2
theorem sl_cells {W : World} {A : Option Addr} {L C : Nat} {Z : List Int} (h1 : L ≤ C) (h2 : C ≤ maxLen) (h3 : Z.length = C) (h4 : ∀ n ∈ Z, (Lit.int .u32 n).wf = true) (h5 : A = none → C = 0)
    (h6 : ∀ a', A = some a' → ∀ c, c < C → W.cell? (a'.add c) = some (.int .u32 (Z.getD c 0))) : Sl W .u32 (.slice A L C) ((Z.take L).map Int.toNat) ∧ All 4294967296 ((Z.take L).map Int.toNat) := by
  have hwf : ∀ n ∈ Z, 0 ≤ n ∧ n ≤ 4294967295 := fun n hn => by
    have := h4 n hn
    simpa [Lit.wf, IntKind.min, IntKind.max, IntKind.signed, IntKind.bits] using this
  have hlen : ((Z.take L).map Int.toNat).length = L := by simp; omega
  have hnth : ∀ j, j < L → ((nth ((Z.take L).map Int.toNat) j : Nat) : Int) = Z.getD j 0 := fun j hj => by
    have hjz : j < Z.length := by omega
    have h0 := hwf Z[j] (List.getElem_mem hjz)
    simp [nth, hj, hjz]
    omega
  refine ⟨⟨A, C, by rw [hlen], by omega, by simpa [maxLen] using h2, ?_⟩, fun x hx => ?_⟩
  · by_cases h0 : L = 0
    · exact .inl (List.eq_nil_of_length_eq_zero (by omega))
    · cases A with
      | none => have := h5 rfl; omega
      | some a =>
        have hcell := h6 a rfl
        obtain ⟨b, off, spot⟩ := a
        have hspot : spot = none := by simpa [Addr.add] using World.cell?_spot (hcell 0 (by omega))
        subst hspot
        refine .inr ⟨b, off, rfl, ?_, fun j hj => ?_⟩
        · have := World.block_lt_of_cell? _ _ (hcell 0 (by omega))
          simpa [Addr.add] using this
        · rw [hlen] at hj
          rw [hnth j hj, ← Addr.add_lit]
          exact hcell j (by omega)
  · obtain ⟨n, hn, rfl⟩ := List.mem_map.1 hx
    have := hwf n (List.mem_of_mem_take hn)
    omega
/-- A slice of slices of limbs that came in. -/
theorem rows_of_trod {H : Type} {enc : TypeId × Value → H} {P : Program} {W : World} {base base' : Nat} {held : Bool} {v : Value} {d : DataW H} {ps : List MemPlace} (h48 : P.underlying 48 = some (.slice 22)) (h22 : P.underlying 22 = some (.slice 52)) (h52 : P.underlying 52 = some (.int .u32)) (ce : P.cellsOf 22 = 1) (cq : P.cellsOf 52 = 1)
    (h : DataW.Trod enc P W base (fun _ => true) held 48 v d ps) (hv : Value.okWide P W .any base' 48 v) :
    ∃ (n : Nat) (vv : Nat → Option Addr × Nat × Nat) (ls : Nat → List Nat), SlS W v n (fun r => tri (vv r)) ∧ (∀ r, r < n → Sl W .u32 (tri (vv r)) (ls r)) ∧ ∀ r, r < n → All 4294967296 (ls r) := by
  obtain ⟨a0, len, cap, rfl⟩ := okWide_slice h48 hv
  obtain ⟨fuel, hf⟩ := h
  rcases open_int_rows h48 h22 h52 ce cq hf with ⟨hcs, _⟩ | ⟨a, len', cap', A, L, C, Z, hcs, _, hl, hm, _, hx⟩
  · simp [Value.cells] at hcs
    obtain ⟨rfl, rfl, rfl⟩ := hcs
    exact ⟨0, fun _ => (none, 0, 0), fun _ => [], ⟨none, 0, rfl, Nat.le_refl _, by omega, .inl rfl⟩, fun r hr => absurd hr (by omega), fun r hr => absurd hr (by omega)⟩
  · simp [Value.cells] at hcs
    obtain ⟨rfl, rfl, rfl⟩ := hcs
    have hs : ∀ r, r < len → Sl W .u32 (.slice (A r) (L r) (C r)) (((Z r).take (L r)).map Int.toNat) ∧ All 4294967296 (((Z r).take (L r)).map Int.toNat) := fun r hr => by
      obtain ⟨c1, c2, c3, c4, c5, c6, c7⟩ := hx r (by omega)
      exact sl_cells c2 c3 c4 c5 c6 (fun a' ha' => (c7 a' ha').2)
    refine ⟨len, fun r => (A r, L r, C r), fun r => ((Z r).take (L r)).map Int.toNat, ⟨some a, cap, rfl, hl, by simpa [maxLen] using hm, ?_⟩, fun r hr => (hs r hr).1, fun r hr => (hs r hr).2⟩
    by_cases h0 : len = 0
    · exact .inl h0
    · obtain ⟨b, off, spot⟩ := a
      have hcell : ∀ r, r < len → W.cell? (Addr.add ⟨b, off, spot⟩ r) = some (.slice (A r) (L r) (C r)) := fun r hr => (hx r (by omega)).1
      have hspot : spot = none := by simpa [Addr.add] using World.cell?_spot (hcell 0 (by omega))
      subst hspot
      refine .inr ⟨b, off, rfl, ?_, fun j hj => ?_⟩
      · have := World.block_lt_of_cell? _ _ (hcell 0 (by omega))
        simpa [Addr.add] using this
      · rw [← Addr.add_lit]
        exact hcell j hj
theorem sum_bd {f : Nat → Nat} {k : Nat} (h : ∀ j, j < k → f j < 4294967296 ^ 12) (hk : k ≤ 12) : Bd (sumF f k) 13 := by
  have e : ∀ i, i ≤ k → sumF f i ≤ i * 4294967296 ^ 12 := by
    intro i
    induction i with
    | zero => intro _; simp [sumF]
    | succ i ih =>
      intro hi
      have h1 := ih (by omega)
      have h2 := h i (by omega)
      rw [Nat.add_mul, Nat.one_mul]
      simp only [sumF]
      omega
  have h1 := e k (Nat.le_refl _)
  unfold Bd
  rw [Nat.pow_succ]
  have hp : 0 < (4294967296 : Nat) ^ 12 := Nat.pow_pos (by omega)
  generalize (4294967296 : Nat) ^ 12 = T at *
  have h3 : k * T ≤ 12 * T := Nat.mul_le_mul_right _ hk
  omega
theorem rows_slS {w : World} {B n : Nat} {v : Value} {us : Nat → Value} (h : w.ownsRow B 22 1 v n ((List.range n).map us)) : SlS w v n us := by
  obtain ⟨-, ⟨rfl, rfl⟩ | ⟨g, cap, cur, rfl, h1, h2, h3, h4, h5, h6⟩⟩ := h
  · exact ⟨none, 0, rfl, Nat.le_refl _, by omega, .inl rfl⟩
  · refine ⟨_, cap, rfl, h3, by simpa [maxLen] using h4, .inr ⟨g, 0, rfl, (Array.getElem?_eq_some_iff.1 h2).1, fun j hj => ?_⟩⟩
    have e := congrArg (fun l => l[j]?) h6
    simp only [List.getElem?_take, List.getElem?_map, List.getElem?_range hj, Nat.mul_one, if_pos hj, Array.getElem?_toList, Option.map_some] at e
    simp [World.cell?, h2, e]
theorem row_own {w1 w2 w : World} {v : Value} {n : Nat} {l : List Value} (g : w1.grownBy w2 v.ownBlock) (h : w1.ownsRow w.heap.size 22 1 v n l) (g0 : w.grownBy w1 none) : w.grownBy w2 none :=
  ⟨g.os.trans g0.os, g.tape.trans g0.tape, g.output.trans g0.output, Nat.le_trans g0.size g.size,
    fun i hi _ => (g.block i (Nat.lt_of_lt_of_le hi g0.size) (fun e => by
      obtain ⟨-, ⟨rfl, _⟩ | ⟨g', cap, cur, rfl, h1, _⟩⟩ := h
      · simp [Value.ownBlock] at e
      · simp [Value.ownBlock] at e; omega)).trans (g0.block i hi (by simp))⟩
theorem row_grown {w1 w2 : World} {B : Nat} {v : Value} {n : Nat} {l : List Value} (h : w1.ownsRow B 22 1 v n l) (g : w1.grownBy w2 none) : w2.ownsRow B 22 1 v n l := by
  obtain ⟨h0, h | ⟨g', cap, cur, rfl, h1, h2, h3⟩⟩ := h
  · exact ⟨h0, .inl h⟩
  · exact ⟨h0, .inr ⟨g', cap, cur, rfl, h1, (g.block g' (Array.getElem?_eq_some_iff.1 h2).1 (by simp)).trans h2, h3⟩⟩

theorem tri_le {w : World} {y : Option Addr × Nat × Nat} {xs : List Nat} (h : Sl w .u32 (tri y) xs) : y.2.1 ≤ y.2.2 := by
  obtain ⟨p, cap, e, h1, h2, -⟩ := h
  simp only [tri, Value.slice.injEq] at e
  omega
theorem cut_sl {w : World} {y : Option Addr × Nat × Nat} {xs : List Nat} (k : Nat) (h : Sl w .u32 (tri y) xs) : Sl w .u32 (cutT k y) (xs.take k) := by
  obtain ⟨p, cap, e, h1, h2, -⟩ := id h
  simp only [tri, Value.slice.injEq] at e
  have := Sl.take h (min xs.length k) (Nat.min_le_left _ _)
  rw [show xs.take (min xs.length k) = xs.take k by
    rcases Nat.le_total xs.length k with h | h
    · rw [Nat.min_eq_left h, List.take_length, List.take_of_length_le h]
    · rw [Nat.min_eq_right h], ← e.2.1] at this
  exact this
theorem row_slice {w : World} {B n : Nat} {v : Value} {l : List Value} (h : w.ownsRow B 22 1 v n l) : ∃ p c, v = .slice p n c := by
  obtain ⟨-, ⟨rfl, rfl⟩ | ⟨g, cap, cur, rfl, h1, h2, h3, h4, h5, h6⟩⟩ := h
  · exact ⟨none, 0, rfl⟩
  · exact ⟨_, cap, rfl⟩
theorem one_new (w : World) (x : Value) : ∀ (j : Nat) (u : Value), [x][j]? = some u → (w.alloc (.cells #[x] 22)).cell? (Addr.add ⟨w.heap.size, 0, none⟩ j) = some u := by
  intro j u hj
  have hj0 : j = 0 := by
    have := (List.getElem?_eq_some_iff.1 hj).1
    simpa using this
  subst hj0
  simp at hj
  subst hj
  rw [Addr.add_lit]
  exact (World.cell?_alloc_at _ _ _ _ rfl).trans rfl
theorem apart_kinds {w : World} {k : IntKind} {B B' n : Nat} {v u : Value} {xs : List Nat} {l : List Value} (h : Own w 3 k B v xs) (h' : w.ownsRow B' 22 1 u n l) : u.ownBlock = none ∨ v.ownBlock ≠ u.ownBlock := by
  obtain ⟨-, ⟨rfl, rfl⟩ | ⟨g, cap, cur, rfl, h1, h2, h3, h4, h5, h6⟩⟩ := h'
  · exact .inl rfl
  · right
    rcases h with ⟨rfl, rfl⟩ | ⟨g', cap', c, rfl, h1', ⟨cur', h2', -⟩, -⟩
    · simp [Value.ownBlock]
    · intro e
      simp [Value.ownBlock] at e
      subst e
      rw [h2] at h2'
      simp at h2'
theorem one_one (y : Option Addr × Nat × Nat) : ∀ u ∈ [cutT 12 y], u.oneCell' = true := by
  intro u hu
  obtain rfl := List.mem_singleton.1 hu
  rfl

set_option maxHeartbeats 4000000 in
set_option maxRecDepth 100000 in
theorem walk {v : Value} {n : Nat} {vv : Nat → Option Addr × Nat × Nat} {ls : Nat → List Nat} {w : World} (hv : SlS w v n (fun r => tri (vv r))) (hs : ∀ r, r < n → Sl w .u32 (tri (vv r)) (ls r)) (ha : ∀ r, r < n → All 4294967296 (ls r)) :
    Calls Try.prog 7 #[v] w (Bool_ w true) := by
  obtain ⟨is0, hi, hz0, hz1, hz2⟩ := info_parts Try.infoS
  obtain ⟨p, cap, rfl, h1, h2, h3⟩ := id hv
  have Hs := Lib.hid hs
  have Ha := Lib.hid ha
  have H3 := Lib.hid h3
  have Hb := Lib.hid (fun r (hr : r < n) => show val 4294967296 ((ls r).take 12) < 4294967296 ^ 12 from Nat.lt_of_lt_of_le (val_lt ((ha r hr).take 12)) (Nat.pow_le_pow_right (by omega) bd_len))
  clear hv hs ha h3
  go_enter Try.func7, Try.ntmps7
  go_wp2_with fail
  go_loopw [3, 4, 5] (fun av rv iv wr => ∃ k : Nat, k ≤ n ∧ k ≤ 12 ∧ iv = .int .i64 k ∧ Hid (Own wr 3 .i64 w.heap.size av (dig 10000 (sumF (fun r => val 4294967296 ((ls r).take 12)) k))) ∧ Hid (wr.ownsRow w.heap.size 22 1 rv k ((List.range k).map fun r => cutT 12 (vv r))) ∧ Hid (w.grownBy wr none)) (fun _ _ iv _ => (12 - (intOf iv).toNat))
  case atStart => exact ⟨0, by omega, by omega, rfl, Own.nil _ _ _ _, ⟨rfl, .inl ⟨rfl, rfl⟩⟩, grown_refl _ _⟩
  case round =>
    obtain ⟨k, hkn, hk, rfl, Ho, Hr, G⟩ := hrel
    have Bk := Lib.hid (sum_bd (f := fun r => val 4294967296 ((ls r).take 12)) (k := k) (fun j hj => Hb.out j (by omega)) hk)
    by_cases hgo : k < n ∧ k < 12
    · obtain ⟨hk1, hk2⟩ := hgo
      rcases H3.out with h3 | ⟨b, off, rfl, hbl, hy⟩
      · omega
      have c1 : wr.cell? ⟨b, off + k, none⟩ = some (tri (vv k)) := by
        rw [World.cell?_of_block (w := w) (G.out.block b hbl (by simp)), hy k hk1]
      have i1 : (k : Int) < (n : Int) := by omega
      have hle : (vv k).2.1 ≤ (vv k).2.2 := tri_le (Hs.out k hk1)
      have Sc := Lib.hid (cut_sl 12 (Hs.out k hk1))
      have Ac := Lib.hid ((Ha.out k hk1).take 12)
      obtain ⟨rp, rc, rfl⟩ := row_slice Hr.out
      obtain ⟨ap, ac, rfl⟩ := Ho.out.slice
      have kd : decide ((k : Int) < 12) = true := decide_eq_true (by omega)
      have hs0 := G.out.size
      clear hy
      go_wp2_with fail
      refine (Row_any (p := (vv k).1) (n := (vv k).2.1) (cap := (vv k).2.2) (k := 12) hle).mono ?_
      rintro e w' ⟨rfl, rfl⟩
      go_wp2_with (at_builtin; refine wpList_append_own _ rfl _ _ 48 rfl w.heap.size 22 is0 (.slice none 0 0) 1 24 Try.underlying48 hi hz0 hz1 hz2 rfl (by omega) (.slice rp k rc) k _ rfl (row_grown Hr.out (grown_alloc _ _ none)) ⟨wr.heap.size, 0, none⟩ 1 1 [cutT 12 (vv k)] rfl rfl ?c1 ?c2 (by simp only [maxLen]; omega) (by omega) (by simp; omega) ?_; (case c1 => exact one_new _ _); (case c2 => exact one_one _); intro v' w3 hr3 g3 _; have Hr3 := Lib.hid hr3; have G3 := Lib.hid (row_own (v := .slice rp k rc) g3 (row_grown Hr.out (grown_alloc _ _ none)) (grown_trans G.out (grown_alloc _ _ _))); have Ho3 := Lib.hid ((Ho.out.grown (grown_alloc _ _ none) (.inl rfl)).grown g3 (apart_kinds (Ho.out.grown (grown_alloc wr (.cells #[cutT 12 (vv k)] 22) none) (.inl rfl)) (row_grown Hr.out (grown_alloc _ _ none)))); clear hr3 g3)
      refine (From_n 12 (Sc.out.grown G3.out (.inl rfl)) Ac.out bd_len (by omega)).mono ?_
      rintro e w4 ⟨f4, rfl, h4, b4, g4⟩
      have Ho4 := Lib.hid (Ho3.out.grown g4 (.inl rfl))
      have Hr4 := Lib.hid (row_grown Hr3.out g4)
      have Nf := Lib.hid (show Dec w4 f4 _ 12 from ⟨h4.sl, b4⟩)
      have G4 := Lib.hid (grown_trans G3.out g4)
      clear h4 b4 g4
      go_wp2_with fail
      refine (RAdd Ho4.out.sl Nf.out.1 (by have := dec_len Bk.out; omega) (by have := Nf.out.len; omega)).mono ?_
      rintro e w5 ⟨v5, rfl, h5, g5⟩
      have Hr5 := Lib.hid (row_grown Hr4.out g5)
      have G5 := Lib.hid (grown_trans G4.out g5)
      have Ho5 := Lib.hid (h5.mono G4.out.size)
      clear h5 g5
      go_wp2_with fail
      go_roundw
      case rel => exact ⟨k + 1, by omega, by omega, by go_num, Ho5.out, (by rw [List.range_succ, List.map_append]; exact Hr5.out : World.ownsRow _ _ _ _ _ _ _), G5.out⟩
      case measure => simp [intOf]; omega
    · obtain ⟨rp, rc, rfl⟩ := row_slice Hr.out
      obtain ⟨ap, ac, rfl⟩ := Ho.out.slice
      by_cases hk1 : k < n
      · have kd : decide ((k : Int) < 12) = false := decide_eq_false (by omega)
        go_wp2_with fail
        refine (Sum_any _ k (fun r => cutT 12 (vv r)) (fun r => (ls r).take 12) wr (rows_slS Hr.out) (fun r hr => (cut_sl 12 (Hs.out r (by omega))).grown G.out (.inl rfl)) (fun r hr => (Ha.out r (by omega)).take 12) 12 (fun r _ => bd_len) (by omega)).mono ?_
        rintro e w4 ⟨sv, rfl, hsum, g⟩
        have Hsum := Lib.hid hsum
        have K := Lib.hid (grown_trans G.out g)
        have Nw := Lib.hid (show Dec w4 (.slice ap _ ac) _ 13 from ⟨(Ho.out.grown g (.inl rfl)).sl, Bk.out⟩)
        clear hsum g
        go_wp2_with fail
        refine (Is_n Nw.out (by omega) Hsum.out.sl).mono ?_
        rintro e w5 ⟨rfl, g⟩
        replace K := Lib.hid (grown_trans K.out g)
        clear g
        go_wp2_with fail
        refine (wakes_true _).mono ?_
        rintro e w6 ⟨rfl, g⟩
        replace K := Lib.hid (grown_trans K.out g)
        clear g
        go_wp2_with fail
        go_ret
        exact ⟨rfl, K.out⟩
      · go_wp2_with fail
        refine (Sum_any _ k (fun r => cutT 12 (vv r)) (fun r => (ls r).take 12) wr (rows_slS Hr.out) (fun r hr => (cut_sl 12 (Hs.out r (by omega))).grown G.out (.inl rfl)) (fun r hr => (Ha.out r (by omega)).take 12) 12 (fun r _ => bd_len) (by omega)).mono ?_
        rintro e w4 ⟨sv, rfl, hsum, g⟩
        have Hsum := Lib.hid hsum
        have K := Lib.hid (grown_trans G.out g)
        have Nw := Lib.hid (show Dec w4 (.slice ap _ ac) _ 13 from ⟨(Ho.out.grown g (.inl rfl)).sl, Bk.out⟩)
        clear hsum g
        go_wp2_with fail
        refine (Is_n Nw.out (by omega) Hsum.out.sl).mono ?_
        rintro e w5 ⟨rfl, g⟩
        replace K := Lib.hid (grown_trans K.out g)
        clear g
        go_wp2_with fail
        refine (wakes_true _).mono ?_
        rintro e w6 ⟨rfl, g⟩
        replace K := Lib.hid (grown_trans K.out g)
        clear g
        go_wp2_with fail
        go_ret
        exact ⟨rfl, K.out⟩

set_option maxRecDepth 100000 in
theorem lifted (os : Os) (started : os.Started) (H : Type) (enc : TypeId × Value → H) :
    ReturnsInHanded {} Try.checked os 7 .any (Rows.limbSumsSpec.pre6 enc Try.prog Try.f7 Rows.limbSumsRow.domain false) (Rows.limbSumsSpec.post enc Try.prog Try.f7 false true false false) := by
  refine returnsInHanded_of_change (C := Try.checked) Try.own started (by kernel_rfl) Try.func7
    (ChangeSpec.witness6 (enc := enc) (C := Try.checked) false ⟨#[], #[.slice none 0 0], []⟩ 8 (by kernel_rfl) (by kernel_rfl) (by kernel_rfl) (by kernel_rfl)) ?_
  intro W base args ds gs before hval0 hW _ _
  have hval : ∀ (j : Nat) t v, Try.f7.params[j]? = some t → args[j]? = some v → Value.okWide Try.prog W .any base t v := hval0
  obtain ⟨p, q, hA0, hV, rfl, _, _⟩ := id hW
  have hA : DataW.TrodAll enc Try.prog W 0 (fun _ => true) true Try.f7.params.toList args.toList ds p := hA0
  rw [Try.params7] at hA hval
  obtain ⟨v0, vs0, d0, ds0, p0, q0, hargs, rfl, rfl, h0, r0⟩ := trodAll_cons hA
  obtain ⟨rfl, rfl, rfl⟩ := trodAll_nil r0
  obtain rfl : args = #[v0] := by cases args; simp_all
  obtain ⟨m0, vv0, ls0, s0, t0, a0⟩ := rows_of_trod Try.underlying48 Try.underlying22 Try.underlying52 (by kernel_rfl) (by kernel_rfl) h0 (hval 0 48 v0 rfl rfl)
  refine (walk s0 t0 a0).mono fun e W' ⟨he, hg⟩ => ?_
  subst he
  refine ⟨_, rfl, law_post Try.laidOut rfl (by kernel_rfl) Try.underlying4 ?_ ?_ hW hg⟩
  · rw [Try.params7]; decide +kernel
  · rw [Try.params7]
    intro ds h
    match ds, h with
    | [_], _ => rfl

theorem holds : Rows.LimbSumsSaid :=
  OpenClaim.holds_of_wide 7 Try.f7 rfl rfl rfl rfl rfl rfl rfl ⟨rfl, rfl, rfl, rfl, rfl⟩ rfl rfl rfl rfl rfl (by kernel_rfl) Try.func7 (by kernel_rfl)
    (of_decide_eq_true (by kernel_rfl)) (by unfold Func.isWrapper; first | (rw [if_pos (by decide +kernel)]; kernel_rfl) | (rw [if_neg (by decide +kernel)]; exact ⟨rfl, rfl⟩))
    (fun os started H enc _ => lifted os started H enc)

end Go.Proofs.Ytkebkdmdhhpinaa.sums
