/- The reference's Text. -/
import Derived.Test.YtjakllpnbeagjaaGreatDoorDigW
import Derived.Shelf.RegionOpenPlain
namespace Go.Proofs.YtjakllpnbeagjaaGreatDoor
open Go.RowKit

/-- The first i and the last i of ys exchanged. -/
def swp (ys : List Nat) (i j : Nat) : Nat := if j < i ∨ ys.length - 1 - j < i then nth ys (ys.length - 1 - j) else nth ys j
theorem swp_end {ys zs : List Nat} {i : Nat} (hl : zs.length = ys.length) (hz : ∀ j, j < ys.length → nth zs j = swp ys i j) (hi : ys.length / 2 ≤ i) : zs = ys.reverse := by
  refine ext_nth (by simp [hl]) fun j hj => ?_
  rw [hl] at hj
  rw [hz j hj]
  have hr : nth ys.reverse j = nth ys (ys.length - 1 - j) := by simp [nth, List.getD, hj, show ys.length - 1 - j < ys.length by omega]
  rw [hr]
  unfold swp
  split
  · rfl
  · have : ys.length - 1 - j = j := by omega
    rw [this]
theorem swp_step {ys zs : List Nat} {i : Nat} (hl : zs.length = ys.length) (hz : ∀ j, j < ys.length → nth zs j = swp ys i j) (hi : i < ys.length / 2) :
    ∀ j, j < ys.length → nth ((zs.set i (nth zs (ys.length - 1 - i))).set (ys.length - 1 - i) (nth zs i)) j = swp ys (i + 1) j := fun j hj => by
  have h1 := hz i (by omega)
  have h2 := hz (ys.length - 1 - i) (by omega)
  have e1 : swp ys i i = nth ys i := by unfold swp; rw [if_neg (by omega)]
  have e2 : swp ys i (ys.length - 1 - i) = nth ys (ys.length - 1 - i) := by unfold swp; rw [if_neg (by omega)]
  rw [e1] at h1
  rw [e2] at h2
  by_cases ha : j = ys.length - 1 - i
  · subst ha
    rw [nth_set_at _ (by simp [hl]; omega), h1]
    unfold swp
    rw [if_pos (by omega), show ys.length - 1 - (ys.length - 1 - i) = i by omega]
  · rw [nth_set_ne _ _ ha]
    by_cases hb : j = i
    · subst hb
      rw [nth_set_at _ (by omega), h2]
      unfold swp
      rw [if_pos (by omega)]
    · rw [nth_set_ne _ _ hb, hz j hj]
      unfold swp
      by_cases hc : j < i ∨ ys.length - 1 - j < i
      · rw [if_pos hc, if_pos (by omega)]
      · rw [if_neg hc, if_neg (by omega)]
theorem OwnB.cellAt {w : World} {B g n cap : Nat} {xs : List Nat} (h : OwnB w B (.slice (some ⟨g, 0, none⟩) n cap) xs) {j : Nat} (hj : j < xs.length) : w.cell? ⟨g, j, none⟩ = some (.int .u8 (nth xs j : Int)) ∧ w.frozen? ⟨g, j, none⟩ = false := by
  rcases h.own with ⟨e, _⟩ | ⟨g', cap', c, e, a1, a2, a3, a4, a5⟩
  · cases e
  · simp only [Value.slice.injEq, Option.some.injEq, Addr.mk.injEq, and_true] at e
    obtain ⟨rfl, rfl, rfl⟩ := e
    exact ⟨by rw [a2.cell (by omega), a5 j hj], a2.frozen j⟩
theorem OwnB.put {w : World} {B g n cap : Nat} {xs : List Nat} (h : OwnB w B (.slice (some ⟨g, 0, none⟩) n cap) xs) {j : Nat} (_hj : j < xs.length) (y : Nat) : OwnB (w.setCell ⟨g, j, none⟩ (.int .u8 (y : Int))) B (.slice (some ⟨g, 0, none⟩) n cap) (xs.set j y) := by
  obtain ⟨⟨h0, h1⟩, h2⟩ := h
  rcases h1 with ⟨e, _⟩ | ⟨g', cap', cur, e, a1, a2, a3, a4, a5, a6⟩
  · cases e
  simp only [Value.slice.injEq, Option.some.injEq, Addr.mk.injEq, and_true] at e
  obtain ⟨rfl, rfl, rfl⟩ := e
  have hblk : (w.setCell ⟨g, j, none⟩ (.int .u8 (y : Int))).heap[g]? = some (.cells (cur.setIfInBounds j (.int .u8 (y : Int))) 5 (0, 0)) := by
    have hg : g < w.heap.size := (Array.getElem?_eq_some_iff.1 a2).1
    rw [Go.Sort.setCell_eq]
    simp [Go.Sort.mapBlock, Array.getElem?_modify, a2, Go.Sort.onCells]
  refine ⟨⟨by rw [vals_len, List.length_set]; omega, .inr ⟨g, cap, _, by rw [List.length_set], a1, hblk, by rw [List.length_set]; exact a3, a4, by simpa using a5, ?_⟩⟩, fun g' cur' e' q hg hh x hx => ?_⟩
  · rw [List.length_set]
    have : vals .u8 (xs.set j y) = (vals .u8 xs).set j (.int .u8 (y : Int)) := by simp [vals, List.map_set]
    rw [this, ← a6, Array.toList_setIfInBounds]
    simp [List.take_set]
  · simp only [Value.ownBlock, Option.some.injEq] at hg
    subst hg
    rw [hblk] at hh
    cases hh
    rw [Array.toList_setIfInBounds] at hx
    rcases List.mem_or_eq_of_mem_set hx with hx | rfl
    · exact h2 g cur _ _ rfl a2 x hx
    · exact ⟨_, rfl⟩
theorem grown_cell {W w : World} {g o : Nat} {u : Value} (h : W.grownBy w none) (hg : W.heap.size ≤ g) : W.grownBy (w.setCell ⟨g, o, none⟩ u) none :=
  grown_new h ⟨rfl, rfl, rfl, by simp, fun q _ hq => Below.heap_setCell _ _ _ _ (by simpa using fun e => hq (congrArg some e))⟩ hg
theorem top_ne {ds : List Nat} {X : Nat} (ha : All 10 ds) (hv : Proofs.YtjakllpnbeagjaaGreatDoor.val 10 ds = X) (h0 : X ≠ 0) : 1 ≤ trimTo ds ds.length := by
  rcases Nat.eq_zero_or_pos (trimTo ds ds.length) with h | h
  · exfalso
    have e := trim_eq (by omega : 2 ≤ 10) ha
    rw [trim_take, h, List.take_zero, hv] at e
    exact h0 ((dig_nil (by omega)).1 e.symm)
  · exact h
theorem limb_val {ds es : List Nat} {xs : List Nat} {i : Nat} (hi : i < xs.length) (h : Proofs.YtjakllpnbeagjaaGreatDoor.val 10 ds = Proofs.YtjakllpnbeagjaaGreatDoor.val 10000 (xs.take i)) (hl : ds.length = 4 * i) (he : nth xs i = Proofs.YtjakllpnbeagjaaGreatDoor.val 10 es) : Proofs.YtjakllpnbeagjaaGreatDoor.val 10 (ds ++ es) = Proofs.YtjakllpnbeagjaaGreatDoor.val 10000 (xs.take (i + 1)) := by
  rw [val_app, val_take_step _ _ hi, h, hl, ← he, Nat.pow_mul, show (10 : Nat) ^ 4 = 10000 by decide]
set_option maxHeartbeats 8000000 in
set_option maxRecDepth 100000 in
theorem RText_any {w : World} {v : Value} {z : Int} {k : Nat} (hx : DecI w v z k) (hk : k ≤ 1000) :
    Calls Tryz.prog 13 #[v] w fun e w' => e = .returned (.string (txtS z)) ∧ w.grownBy w' none := by
  obtain ⟨X, hX⟩ : ∃ X, z.natAbs = X := ⟨_, rfl⟩
  obtain ⟨neg, hneg⟩ : ∃ b, decide (z < 0) = b := ⟨_, rfl⟩
  obtain ⟨p, cap, rfl, hs⟩ := hx
  have hl3 := hs.len
  rw [hX] at hs hl3 ⊢
  rw [hneg]
  have Hs := Lib.hid (hs.1.grown (grown_alloc w (.cells #[.slice p (dig 10000 X).length cap, .bool neg] 31) none) (.inl rfl))
  have HX := Lib.hid hX
  have Hn := Lib.hid hneg
  obtain ⟨L, hL⟩ : ∃ L, (dig 10000 X).length = L := ⟨_, rfl⟩
  have HL := Lib.hid hL
  have hz0 : L = 0 ↔ X = 0 := by rw [← hL]; exact dig_len_zero (by omega)
  have HZ := Lib.hid hz0
  obtain ⟨xs, hxs⟩ : ∃ xs, dig 10000 X = xs := ⟨_, rfl⟩
  have HA := Lib.hid (hxs ▸ dig_all (by omega : 2 ≤ 10000) X : All 10000 xs)
  have HV := Lib.hid (show Proofs.YtjakllpnbeagjaaGreatDoor.val 10000 xs = X by rw [← hxs]; exact val_dig (by omega) X)
  rw [hxs] at Hs HL
  rw [hL] at hl3 ⊢
  have Hs2 : Hid (Sl (w.alloc (.cells #[.slice p L cap, .bool neg] 31)) .i64 (.slice p L cap) xs) := by
    have := Hs.out
    rw [← hL]
    exact Lib.hid (by simpa only [hxs] using this)
  have S : St w [(w.heap.size, 0, .slice p L cap), (w.heap.size, 1, .bool neg)] [] (w.alloc (.cells #[.slice p L cap, .bool neg] 31)) := (St.start w).box (w.heap.size) [.slice p L cap, .bool neg] 31 rfl
  clear hs hX hneg hL hz0 hxs Hs
  by_cases h0 : L = 0
  · have E : Hid (txtS z = ⟨#[48]⟩) := Lib.hid (by
      have e0 := HZ.out.1 h0
      have e1 := HX.out
      have : z = 0 := by omega
      subst this; rfl)
    subst h0
    obtain ⟨e0, e1, G⟩ := id S
    go_enter Tryz.func13, Tryz.ntmps13
    go_wp2_with fail
    go_ret
    exact ⟨by rw [E.out]; rfl, G⟩
  · have HN : Hid (X ≠ 0) := Lib.hid (fun e => h0 (HZ.out.2 e))
    have hbL : (((L : Nat) : Int) == 0) = false := by simp; omega
    obtain ⟨e0, e1, G⟩ := id S
    have zW : (w.alloc (.cells #[.slice p L cap, .bool neg] 31)).heap.size = w.heap.size + 1 := by simp
    go_enter Tryz.func13, Tryz.ntmps13
    go_wp2_with fail
    clear e0 e1 G
    generalize w.alloc (.cells #[.slice p L cap, .bool neg] 31) = W1 at *
    obtain ⟨g0, hg0⟩ : ∃ g, w.heap.size = g := ⟨_, rfl⟩
    rw [hg0] at S zW ⊢
    have HG := Lib.hid hg0
    clear hg0
    go_loopw [3, 15] (fun ov iv wr => ∃ (i : Nat) (ds : List Nat), i ≤ L ∧ iv = .int .i64 (i : Int) ∧ Hid (OwnB wr g0 ov (chB ds)) ∧ Hid (All 10 ds) ∧ Hid (Proofs.YtjakllpnbeagjaaGreatDoor.val 10 ds = Proofs.YtjakllpnbeagjaaGreatDoor.val 10000 (xs.take i)) ∧ ds.length = 4 * i ∧ Hid (Sl wr .i64 (.slice p L cap) xs) ∧ g0 < wr.heap.size ∧
      Hid (St w [(g0, 0, .slice p L cap), (g0, 1, .bool neg)] [] wr)) (fun _ iv _ => L - natOf iv)
    case atStart => exact ⟨0, [], by omega, rfl, Lib.hid (OwnB.nil _ _), Lib.hid (All.nil _), Lib.hid (by simp [Proofs.YtjakllpnbeagjaaGreatDoor.val]), by simp, Hs2, by omega, Lib.hid S⟩
    case round =>
      obtain ⟨i, ds, hi, rfl, HO, HD, HE, hl, HS, hsz, S1⟩ := hrel
      clear S Hs2
      have S := S1.out
      clear S1
      by_cases hlt : i < L
      · have hi1 : (i : Int) < (L : Int) := by omega
        have hc : ∃ b off, p = some ⟨b, off, none⟩ ∧ wr.cell? ⟨b, off + i, none⟩ = some (.int .i64 (nth xs i)) := by
          obtain ⟨p', cap', e, a1, a2, a3⟩ := HS.out
          simp only [Value.slice.injEq] at e
          obtain ⟨rfl, e2, rfl⟩ := e
          rcases a3 with a3 | ⟨b, off, rfl, _, a5⟩
          · rw [a3] at e2; simp at e2; omega
          · exact ⟨b, off, rfl, a5 i (by omega)⟩
        obtain ⟨b, off, rfl, c1⟩ := hc
        have hn : nth xs i < 10000 := nth_lt (by omega) HA.out i
        obtain ⟨N, hN⟩ : ∃ N, nth xs i = N := ⟨_, rfl⟩
        rw [hN] at c1 hn
        have HN1 := Lib.hid hN
        have hLc : (L : Int) ≤ (cap : Int) := by
          obtain ⟨p', cap', e, a1, a2, a3⟩ := HS.out
          simp only [Value.slice.injEq] at e
          omega
        clear hN
        obtain ⟨e0, e1, G⟩ := id S
        go_wp2_with fail
        clear e0 e1 G c1
        go_loopw [3, 5, 6] (fun ov nv iv wr => ∃ (es : List Nat) (M : Nat), iv = .int .i64 (es.length : Int) ∧ nv = .int .i64 (M : Int) ∧ M < 10000 ∧ es.length ≤ 4 ∧ Hid (OwnB wr g0 ov (chB (ds ++ es))) ∧ Hid (All 10 es) ∧ Hid (N = Proofs.YtjakllpnbeagjaaGreatDoor.val 10 es + 10 ^ es.length * M) ∧ Hid (Sl wr .i64 (.slice (some ⟨b, off, none⟩) L cap) xs) ∧ g0 < wr.heap.size ∧
          Hid (St w [(g0, 0, .slice (some ⟨b, off, none⟩) L cap), (g0, 1, .bool neg)] [] wr)) (fun _ _ iv _ => 4 - natOf iv)
        case atStart => exact ⟨[], N, rfl, rfl, hn, by simp, by rw [List.append_nil]; exact HO, Lib.hid (All.nil _), Lib.hid (by simp [Proofs.YtjakllpnbeagjaaGreatDoor.val]), HS, hsz, Lib.hid S⟩
        case round =>
          obtain ⟨es, M, rfl, rfl, hM, hj, HO, HE4, HNM, HS, hsz, S⟩ := hrel
          obtain ⟨op, ocap, rfl⟩ := HO.out.slice
          obtain ⟨m, hm⟩ : ∃ m, (chB (ds ++ es)).length = m := ⟨_, rfl⟩
          obtain ⟨j, hjj⟩ : ∃ j, es.length = j := ⟨_, rfl⟩
          have hm9 : m ≤ 4 * L + 4 := by rw [← hm, chB_len, List.length_append]; omega
          have HO2 : Hid (OwnB _ g0 (.slice op m ocap) (chB (ds ++ es))) := Lib.hid (hm ▸ HO.out)
          have Hm := Lib.hid hm
          have Hj := Lib.hid hjj
          rw [hm, hjj]
          rw [hjj] at hj
          clear HO hm hjj
          have lS := S.out.size
          have hgw := HG.out
          by_cases hlt2 : j < 4
          · have hi2 : (j : Int) < 4 := by omega
            have d1 : M % 10 < 10 := by omega
            go_wp2_with (at_builtin; refine wp_append_b rfl _ _ rfl g0 (.slice op m ocap) (chB (ds ++ es)) rfl (HO2.out.grown (grown_alloc _ _ none) (.inl rfl)) (48 + M % 10) wr.heap.size rfl ?c1 (by simp; omega) (by have := Hm.out; omega) ?_; (case c1 => exact (World.cell?_alloc_at _ _ _ _ rfl).trans (by simp)); intro v' w3 ho3 g3; have Ho3 := Lib.hid ho3; have G3 := Lib.hid g3; clear ho3 g3)
            have ga := grown_alloc wr (.cells #[Value.int IntKind.u8 (48 + (M : Int) % 10)] 5) none
            have HA3 := HO2.out.grown ga (.inl rfl)
            have S3 := Lib.hid (HA3.st (S.out.step ga) G3.out (by omega) (by intro c hc; simp only [List.mem_cons, List.not_mem_nil, or_false] at hc; rcases hc with rfl | rfl <;> first | exact noB_bool | exact noB_slice) (by intro f hf; cases hf))
            have Kq3 := (Kp.of ga).q.trans (HA3.kq G3.out)
            replace HS := Lib.hid (HS.out.kq (by decide) Kq3)
            have s3 := Kq3.1
            have Ho4 : Hid (OwnB w3 g0 v' (chB (ds ++ (es ++ [M % 10])))) := by rw [← List.append_assoc, chB_snoc]; exact Ho3
            have HE5 : Hid (All 10 (es ++ [M % 10])) := Lib.hid (HE4.out.app (All.cons d1 (All.nil _)))
            have HN4 := Lib.hid (snoc_val HNM.out rfl)
            clear HA3 Kq3 ga
            go_roundw
            case rel => exact ⟨es ++ [M % 10], M / 10, int_eq (by rw [List.length_append, Hj.out]; simp), int_eq (by omega), by omega, by rw [List.length_append, Hj.out]; simp; omega, Ho4, HE5, HN4, HS, by omega, S3⟩
            case measure => simp [natOf]; omega
          · have hi2 : ¬ (j : Int) < 4 := by omega
            have hj4 : j = 4 := by omega
            have hM0 : M = 0 := by
              have h1 := HNM.out
              rw [Hj.out, hj4] at h1
              rcases Nat.eq_zero_or_pos M with h2 | h2
              · exact h2
              · have h3 : 10 ^ 4 * 1 ≤ 10 ^ 4 * M := Nat.mul_le_mul_left _ h2
                have h4 : (10 : Nat) ^ 4 = 10000 := by decide
                have h5 := HN1.out
                have h6 := nth_lt (by omega) HA.out i
                omega
            have hiL : i < xs.length := by rw [HL.out]; exact hlt
            have hN2 : nth xs i = Proofs.YtjakllpnbeagjaaGreatDoor.val 10 es := by rw [HN1.out, HNM.out, hM0, Nat.mul_zero, Nat.add_zero]
            have HX4 := Lib.hid (limb_val hiL HE.out hl hN2)
            clear hN2
            have HA4 := Lib.hid (HD.out.app HE4.out)
            have hl4 : (ds ++ es).length = 4 * (i + 1) := by rw [List.length_append, Hj.out, hj4]; omega
            have HO4 : Hid (OwnB wr g0 (.slice op m ocap) (chB (ds ++ es))) := HO2
            go_wp2_with fail
            go_roundw
            case rel => exact ⟨i + 1, ds ++ es, by omega, by go_num, HO4, HA4, HX4, hl4, HS, hsz, S⟩
            case measure => simp [natOf]; omega
      · have hi1 : ¬ (i : Int) < (L : Int) := by omega
        obtain rfl : i = L := by omega
        have hlp : 1 ≤ (chB ds).length := by rw [chB_len]; omega
        have HV2 : Hid (Proofs.YtjakllpnbeagjaaGreatDoor.val 10 ds = X) := Lib.hid (by rw [HE.out, List.take_of_length_le (by rw [HL.out]; exact Nat.le_refl _), HV.out])
        obtain ⟨op, ocap, rfl⟩ := HO.out.slice
        have hop : ∃ g, op = some ⟨g, 0, none⟩ := by
          rcases HO.out.own with ⟨_, e⟩ | ⟨g, cc, _, e, _⟩
          · rw [e] at hlp; simp at hlp
          · simp only [Value.slice.injEq] at e
            exact ⟨g, e.1⟩
        obtain ⟨g, rfl⟩ := hop
        have hocap : (chB ds).length ≤ ocap := by
          rcases HO.out.own with ⟨e, _⟩ | ⟨g', cc, _, e, _, _, a3, _⟩
          · cases e
          · simp only [Value.slice.injEq] at e; omega
        have ht1 := top_ne HD.out HV2.out HN.out
        have Hc : Hid (cutZ (chB ds) (chB ds).length = trimTo ds ds.length) := Lib.hid (by rw [chB_len, cutZ_chB ds (Nat.le_refl _)])
        have Ht : Hid ((chB ds).take (trimTo ds ds.length) = chB (dig 10 X)) := Lib.hid (by
          rw [← HV2.out, ← trim_eq (by omega) HD.out, trim_take]; simp [chB, List.map_take])
        have Htl : Hid (trimTo ds ds.length = (dig 10 X).length) := Lib.hid (by rw [← trim_len, trim_eq (by omega) HD.out, HV2.out])
        obtain ⟨c, hc⟩ : ∃ c, trimTo ds ds.length = c := ⟨_, rfl⟩
        obtain ⟨n0, hn0⟩ : ∃ n, (chB ds).length = n := ⟨_, rfl⟩
        rw [hc] at Hc Ht Htl ht1
        rw [hn0] at Hc hocap ⊢
        have HO5 : Hid (OwnB wr g0 (.slice (some ⟨g, 0, none⟩) n0 ocap) (chB ds)) := Lib.hid (hn0 ▸ HO.out)
        have Hn0 := Lib.hid hn0
        clear hc hn0 HO hlp
        go_wp2_with fail
        go_loop [3] (fun lv => ∃ q : Nat, q ≤ n0 ∧ c ≤ q ∧ lv = .slice (some ⟨g, 0, none⟩) q ocap ∧ cutZ (chB ds) q = c) (fun lv => slLen lv)
        case atStart => exact ⟨n0, Nat.le_refl _, by have := cutZ_le (chB ds) n0; rw [Hc.out] at this; exact this, rfl, Hc.out⟩
        case round =>
          obtain ⟨q, hq, hcq, rfl, ht⟩ := hrel
          have HT := Lib.hid ht
          clear ht
          obtain ⟨q, rfl⟩ : ∃ q', q = q' + 1 := ⟨q - 1, by omega⟩
          have hcell := (HO5.out.cellAt (j := q) (by rw [Hn0.out]; omega)).1
          have hqc : q + 1 ≤ ocap := by omega
          have hq9 : q ≤ 20000 := by have := Hn0.out; rw [chB_len] at this; omega
          by_cases h48 : nth (chB ds) q = 48
          · have hb : (((nth (chB ds) q : Nat) : Int) == 48) = true := by rw [h48]; rfl
            have HZ8 := Lib.hid h48
            clear h48
            have HT2 : Hid (cutZ (chB ds) q = c) := Lib.hid (by rw [← HT.out]; simp [cutZ, HZ8.out])
            have hcq2 : c ≤ q := by have := cutZ_le (chB ds) q; rw [HT2.out] at this; exact this
            go_wp2_with fail
            go_round
            case rel => exact ⟨q, by omega, hcq2, by go_num, HT2.out⟩
            case measure => simp [slLen]
          · have hb : (((nth (chB ds) q : Nat) : Int) == 48) = false := by simp; omega
            have HQ : Hid (q + 1 = c) := Lib.hid (by rw [← HT.out]; simp [cutZ, h48])
            clear h48
            obtain rfl : c = q + 1 := HQ.out.symm
            have HO6 : Hid (OwnB wr g0 (.slice (some ⟨g, 0, none⟩) (q + 1) ocap) (chB (dig 10 X))) := by
              have := HO5.out.take hq
              rw [Ht.out] at this
              exact Lib.hid this
            have Hlen : Hid ((chB (dig 10 X)).length = q + 1) := Lib.hid (by rw [chB_len, ← Htl.out])
            obtain ⟨e0, e1, G⟩ := id S
            have lS := S.size
            have hgw := Lib.hid HG.out
            cases neg
            · go_wp2_with fail
              obtain ⟨n, hn⟩ : ∃ n, q + 1 = n := ⟨_, rfl⟩
              rw [hn] at HO6 Hlen ⊢
              have hn9 : n ≤ 20001 := by omega
              have hn1 : 1 ≤ n := by omega
              have GH := Lib.hid (S.all)
              clear hn e0 e1 G
              go_loopw [7] (fun iv wr => ∃ (i : Nat) (zs : List Nat), i ≤ n / 2 ∧ iv = .int .i64 (i : Int) ∧ Hid (OwnB wr g0 (.slice (some ⟨g, 0, none⟩) n ocap) zs) ∧ Hid (zs.length = (chB (dig 10 X)).length) ∧ Hid (∀ j, j < (chB (dig 10 X)).length → nth zs j = swp (chB (dig 10 X)) i j) ∧ Hid (w.grownBy wr none)) (fun iv _ => n - natOf iv)
              case atStart => exact ⟨0, chB (dig 10 X), by omega, rfl, HO6, Lib.hid rfl, Lib.hid (fun j _ => by simp [swp]), GH⟩
              case round =>
                obtain ⟨i, zs, hi, rfl, HO, HZL, HSW, HW⟩ := hrel
                by_cases hlt : i < n / 2
                · have hi1 : (i : Int) < (n : Int) / 2 := by omega
                  obtain ⟨j, hj⟩ : ∃ j, n - 1 - i = j := ⟨_, rfl⟩
                  have il : i < zs.length := by rw [HZL.out, Hlen.out]; omega
                  have jl : j < zs.length := by rw [HZL.out, Hlen.out]; omega
                  obtain ⟨ci, fi⟩ := HO.out.cellAt il
                  obtain ⟨cj, fj⟩ := HO.out.cellAt jl
                  have w1 : IntKind.i64.wrap ((n : Int) - 1) = (n : Int) - 1 := IntWalk.i64_in _ (by omega)
                  have w2 : (n : Int) - 1 - (i : Int) = (j : Int) := by omega
                  have w3 : IntKind.i64.wrap (j : Int) = (j : Int) := IntWalk.i64_in _ (by omega)
                  have mixed : Tryz.prog.follows .mixedOrders = true := by kernel_rfl
                  have b1 : (j : Int) < (n : Int) := by omega
                  have b2 : (i : Int) < (n : Int) := by omega
                  have hgB := (HO.out.lt g rfl).1
                  have hgw2 := HG.out
                  have HP := Lib.hid (((HO.out.put il (nth zs j)).put (j := j) (by rw [List.length_set]; exact jl) (nth zs i)).grown (grown_drew _ none) (.inl rfl))
                  have HPW := Lib.hid (grown_trans (grown_cell (o := j) (u := .int .u8 (nth zs i : Int)) (grown_cell (o := i) (u := .int .u8 (nth zs j : Int)) HW.out (by rw [hgw2]; exact hgB)) (by rw [hgw2]; exact hgB)) (grown_drew _ none))
                  have HS2 : Hid (∀ m, m < (chB (dig 10 X)).length → nth ((zs.set i (nth zs j)).set j (nth zs i)) m = swp (chB (dig 10 X)) (i + 1) m) := Lib.hid (by
                    have hjj : (chB (dig 10 X)).length - 1 - i = j := by rw [Hlen.out]; exact hj
                    have := swp_step HZL.out HSW.out (i := i) (by rw [Hlen.out]; exact hlt)
                    rw [hjj] at this
                    exact this)
                  have HL2 : Hid (((zs.set i (nth zs j)).set j (nth zs i)).length = (chB (dig 10 X)).length) := Lib.hid (by rw [List.length_set, List.length_set, HZL.out])
                  clear hj hgB hgw2 il jl HZL HSW HW
                  go_wp2_with fail
                  go_region_o
                  clear ci cj fi fj w1 w2 w3 mixed
                  go_wp2_with fail
                  go_roundw
                  case rel => exact ⟨i + 1, _, by omega, by go_num, HP, HL2, HS2, HPW⟩
                  case measure => simp [natOf]; omega
                · have hi1 : ¬ (i : Int) < (n : Int) / 2 := by omega
                  have e : zs = (chB (dig 10 X)).reverse := swp_end HZL.out HSW.out (by rw [Hlen.out]; omega)
                  have hs := HO.out.own.sl
                  have hcv := conv_b hs (by
                    intro e2
                    rw [e2] at e
                    have := congrArg List.length e
                    rw [List.length_reverse, Hlen.out] at this
                    simp at this; omega)
                  rw [e, bstr_pos HN.out (z := z) (by have := of_decide_eq_false Hn.out; have := HX.out; omega)] at hcv
                  have HC := Lib.hid hcv
                  clear e hs
                  go_wp2_with fail
                  go_ret
                  exact ⟨rfl, HW.out⟩
            · go_wp2_with (at_builtin; refine wp_append_b rfl _ _ rfl g0 (.slice (some ⟨g, 0, none⟩) (q + 1) ocap) (chB (dig 10 X)) rfl (HO6.out.grown (grown_alloc _ _ none) (.inl rfl)) 45 wr.heap.size rfl ?c1 (by simp; omega) (by rw [Hlen.out]; omega) ?_; (case c1 => exact (World.cell?_alloc_at _ _ _ _ rfl).trans (by simp)); intro v' w3 ho3 g3; have Ho3 := Lib.hid ho3; have G3 := Lib.hid g3; clear ho3 g3)
              have ga := grown_alloc wr (.cells #[Value.int IntKind.u8 45] 5) none
              have HA3 := HO6.out.grown ga (.inl rfl)
              have hgw3 := HG.out
              have GH : Hid (w.grownBy w3 none) := Lib.hid (grown_new (grown_trans S.all ga) G3.out (by rw [hgw3]; exact (HA3.lt g rfl).1))
              obtain ⟨op7, ocap7, rfl⟩ := Ho3.out.slice
              have hop7 : ∃ g7, op7 = some ⟨g7, 0, none⟩ := by
                rcases Ho3.out.own with ⟨_, e⟩ | ⟨g7, cc, _, e, _⟩
                · simp at e
                · simp only [Value.slice.injEq] at e
                  exact ⟨g7, e.1⟩
              obtain ⟨g7, rfl⟩ := hop7
              obtain ⟨n, hn⟩ : ∃ n, (chB (dig 10 X) ++ [45]).length = n := ⟨_, rfl⟩
              have HO7 : Hid (OwnB w3 g0 (.slice (some ⟨g7, 0, none⟩) n ocap7) (chB (dig 10 X) ++ [45])) := Lib.hid (hn ▸ Ho3.out)
              have Hlen7 := Lib.hid hn
              have hn9 : n ≤ 20002 := by rw [← hn, List.length_append, Hlen.out]; simp; omega
              have hn1 : 1 ≤ n := by rw [← hn, List.length_append]; simp
              rw [hn]
              clear hn Ho3 HA3 ga G3 hgw3 e0 e1 G
              go_wp2_with fail
              go_loopw [7] (fun iv wr => ∃ (i : Nat) (zs : List Nat), i ≤ n / 2 ∧ iv = .int .i64 (i : Int) ∧ Hid (OwnB wr g0 (.slice (some ⟨g7, 0, none⟩) n ocap7) zs) ∧ Hid (zs.length = (chB (dig 10 X) ++ [45]).length) ∧ Hid (∀ j, j < (chB (dig 10 X) ++ [45]).length → nth zs j = swp (chB (dig 10 X) ++ [45]) i j) ∧ Hid (w.grownBy wr none)) (fun iv _ => n - natOf iv)
              case atStart => exact ⟨0, chB (dig 10 X) ++ [45], by omega, rfl, HO7, Lib.hid rfl, Lib.hid (fun j _ => by simp [swp]), GH⟩
              case round =>
                obtain ⟨i, zs, hi, rfl, HO, HZL, HSW, HW⟩ := hrel
                by_cases hlt : i < n / 2
                · have hi1 : (i : Int) < (n : Int) / 2 := by omega
                  obtain ⟨j, hj⟩ : ∃ j, n - 1 - i = j := ⟨_, rfl⟩
                  have il : i < zs.length := by rw [HZL.out, Hlen7.out]; omega
                  have jl : j < zs.length := by rw [HZL.out, Hlen7.out]; omega
                  obtain ⟨ci, fi⟩ := HO.out.cellAt il
                  obtain ⟨cj, fj⟩ := HO.out.cellAt jl
                  have w1 : IntKind.i64.wrap ((n : Int) - 1) = (n : Int) - 1 := IntWalk.i64_in _ (by omega)
                  have w2 : (n : Int) - 1 - (i : Int) = (j : Int) := by omega
                  have w3 : IntKind.i64.wrap (j : Int) = (j : Int) := IntWalk.i64_in _ (by omega)
                  have mixed : Tryz.prog.follows .mixedOrders = true := by kernel_rfl
                  have b1 : (j : Int) < (n : Int) := by omega
                  have b2 : (i : Int) < (n : Int) := by omega
                  have hgB := (HO.out.lt g7 rfl).1
                  have hgw2 := HG.out
                  have HP := Lib.hid (((HO.out.put il (nth zs j)).put (j := j) (by rw [List.length_set]; exact jl) (nth zs i)).grown (grown_drew _ none) (.inl rfl))
                  have HPW := Lib.hid (grown_trans (grown_cell (o := j) (u := .int .u8 (nth zs i : Int)) (grown_cell (o := i) (u := .int .u8 (nth zs j : Int)) HW.out (by rw [hgw2]; exact hgB)) (by rw [hgw2]; exact hgB)) (grown_drew _ none))
                  have HS2 : Hid (∀ m, m < (chB (dig 10 X) ++ [45]).length → nth ((zs.set i (nth zs j)).set j (nth zs i)) m = swp (chB (dig 10 X) ++ [45]) (i + 1) m) := Lib.hid (by
                    have hjj : (chB (dig 10 X) ++ [45]).length - 1 - i = j := by rw [Hlen7.out]; exact hj
                    have := swp_step HZL.out HSW.out (i := i) (by rw [Hlen7.out]; exact hlt)
                    rw [hjj] at this
                    exact this)
                  have HL2 : Hid (((zs.set i (nth zs j)).set j (nth zs i)).length = (chB (dig 10 X) ++ [45]).length) := Lib.hid (by rw [List.length_set, List.length_set, HZL.out])
                  clear hj hgB hgw2 il jl HZL HSW HW
                  go_wp2_with fail
                  go_region_o
                  clear ci cj fi fj w1 w2 w3 mixed
                  go_wp2_with fail
                  go_roundw
                  case rel => exact ⟨i + 1, _, by omega, by go_num, HP, HL2, HS2, HPW⟩
                  case measure => simp [natOf]; omega
                · have hi1 : ¬ (i : Int) < (n : Int) / 2 := by omega
                  have e : zs = (chB (dig 10 X) ++ [45]).reverse := swp_end HZL.out HSW.out (by rw [Hlen7.out]; omega)
                  have hs := HO.out.own.sl
                  have hcv := conv_b hs (by
                    intro e2
                    rw [e2] at e
                    have := congrArg List.length e
                    rw [List.length_reverse, Hlen7.out] at this
                    simp at this; omega)
                  rw [e, bstr_neg HN.out (z := z) (by have := of_decide_eq_true Hn.out; have := HX.out; omega)] at hcv
                  have HC := Lib.hid hcv
                  clear e hs
                  go_wp2_with fail
                  go_ret
                  exact ⟨rfl, HW.out⟩
end Go.Proofs.YtjakllpnbeagjaaGreatDoor
