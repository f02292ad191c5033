/- Package orreryref01: DivN. -/
import Derived.Test.YtmmmpdpgkjcohaaRefG
namespace Go.Proofs.Ytmmmpdpgkjcohaa
open Go.RowKit

/-- What DivN hands back. -/
def DivR (w : World) (Q R : Nat) (e : Ending) (w' : World) : Prop :=
  ∃ v u, e = .returned (.tuple #[v, u]) ∧ Own w' 3 .i64 w.heap.size v (dig 10000 Q) ∧ Own w' 3 .i64 w.heap.size u (dig 10000 R) ∧ w.grownBy w' none

theorem one_own (w : World) (e : TypeId) (k : IntKind) (x : Nat) (B : Nat) (hB : B ≤ w.heap.size) : Own (w.alloc (.cells #[.int k x] e)) e k B (.slice (some ⟨w.heap.size, 0, none⟩) 1 1) [x] := by
  refine .inr ⟨w.heap.size, 1, fun _ => .int k x, rfl, hB, ?_, Nat.le_refl _, by omega, fun j hj => ?_⟩
  · exact RowF.made w #[.int k x] e _ (fun j hj => by
      have : j = 0 := by simpa using hj
      subst this; rfl)
  · have : j = 0 := by simpa using hj
    subst this; rfl
theorem cons_trim {a r : Nat} (ha : a < 10000) : trim ([a] ++ dig 10000 r) = dig 10000 (a + 10000 * r) := by
  have h : All 10000 ([a] ++ dig 10000 r) := All.cons ha (dig_all (by omega) _)
  rw [trim_eq (by omega) h]
  simp [val, val_dig]
theorem half_lo {lo hi m : Nat} (hm : (lo + hi + 1) / 2 = m) (hl : lo < hi) : lo < m ∧ m ≤ hi := by omega

theorem own_slice (p : Option Addr) (a b c d : Nat) : (Value.slice p a b).ownBlock = (Value.slice p c d).ownBlock := by
  cases p <;> simp [Value.ownBlock]
theorem dig_grow0 (Y : Nat) : (dig 10000 (10000 * Y)).length ≤ (dig 10000 Y).length + 1 := by
  refine dig_len_le (by omega) _ _ ?_
  have := dig_lt_pow (b := 10000) (by omega) Y
  rw [Nat.pow_succ]
  omega
theorem div_round {V A Z r a T Y l : Nat} (h : A = Z * Y + r) (hT : a + 10000 * r = T) (hl : Y * l ≤ T) (hV : V = a + 10000 * A) : V = (l + 10000 * Z) * Y + (T - Y * l) := by
  obtain ⟨d, rfl⟩ : ∃ d, T = Y * l + d := ⟨T - Y * l, by omega⟩
  rw [Nat.add_sub_cancel_left, hV, h, Nat.add_mul, Nat.mul_add, Nat.mul_comm l Y, Nat.mul_assoc]
  omega

set_option maxHeartbeats 2000000 in
set_option maxRecDepth 100000 in
theorem RDiv {v u : Value} {X Y : Nat} {w : World} (hx : Sl w .i64 v (dig 10000 X)) (hy : Sl w .i64 u (dig 10000 Y)) (lx : (dig 10000 X).length ≤ 3000000) (ly : (dig 10000 Y).length ≤ 3000000) (hY : 0 < Y) :
    Calls Try.prog 69 #[v, u] w (DivR w (X / Y) (X % Y)) := by
  have ax := Lib.hid (dig_all (b := 10000) (by omega) X)
  have vx := Lib.hid (val_dig (b := 10000) (by omega) X)
  obtain ⟨p, cap, rfl, h1, h2, h3⟩ := id hx
  obtain ⟨q, capy, rfl, -⟩ := id hy
  obtain ⟨i0, hi, hz0, hz1, hz2⟩ := info_parts Try.infoI
  generalize hdx : dig 10000 X = xs at *
  obtain ⟨n, hn⟩ : ∃ n, xs.length = n := ⟨_, rfl⟩
  rw [hn] at lx h1 ⊢
  have H3 := Lib.hid h3
  have Hn := Lib.hid hn
  have Hy := Lib.hid hy
  clear h3 hn hx hy hdx h2
  go_enter Try.func69, Try.ntmps69
  go_wp2_with (at_make; refine wp_make rfl _ _ 26 rfl 3 i0 (.int .i64 0) Try.underlying26 hi hz0 hz1 (by omega) rfl _ _ _ _ n n rfl rfl (by omega) (by omega) (Nat.le_refl _) (by omega) ?_; intro w1 r1 g1 s1; have R1 := Lib.hid r1; have G1 := Lib.hid g1; clear r1 g1)
  go_loopw [7, 8] (fun rv iv wr => ∃ (k r : Nat) (q : Int) (Z : List Nat), k ≤ n ∧ iv = .int .i64 q ∧ q = (k : Int) - 1 ∧ Hid (r < Y) ∧ Hid (Z.length = n) ∧ Hid (All 10000 Z) ∧
      Hid (val 10000 (xs.drop k) = val 10000 (Z.drop k) * Y + r) ∧ Hid (Own wr 3 .i64 w.heap.size rv (dig 10000 r)) ∧ Hid (RowF wr 3 w.heap.size n (fun j => .int .i64 (nth Z j))) ∧ Hid (w.grownBy wr none) ∧ w.heap.size < wr.heap.size) (fun _ i _ => (intOf i + 1).toNat)
  case atStart =>
    refine ⟨n, 0, _, List.replicate n 0, by omega, rfl, rfl, hY, ?_, All.rep (by omega) _, ?_, Own.nil _ _ _ _, R1.out.congr fun j hj => by simp [nth, hj], G1.out, by omega⟩
    · show _ = _
      simp
    · show _ = _
      rw [List.drop_of_length_le (by rw [Hn.out]; omega), List.drop_replicate, val_rep0]
      simp [val]
  case round =>
    obtain ⟨k, r, q, Z, hk, rfl, hq, Hr, Zl, Za, Hv, Ro, Rr, Gr, sr⟩ := hrel
    have Rs := Lib.hid Ro.out.sl
    obtain ⟨rp, rcap, rfl, -⟩ := id Rs.out
    cases k with
    | zero =>
      obtain rfl : q = -1 := by omega
      have ho : Own wr 3 .i64 w.heap.size (.slice (some ⟨w.heap.size, 0, none⟩) n n) Z :=
        .inr ⟨w.heap.size, _, _, by rw [Zl.out], Nat.le_refl _, Rr.out, by rw [Zl.out]; omega, by omega, fun j _ => rfl⟩
      have Ho := Lib.hid ho
      clear ho hq
      go_wp2_with fail
      refine (cut_any _ _ _ Z _ Ho.out.sl).mono ?_
      rintro e w'' ⟨rfl, rfl⟩
      go_wp2_with fail
      go_ret2
      have hv := Hv.out
      simp only [List.drop_zero] at hv
      rw [vx.out] at hv
      have e1 : X / Y = val 10000 Z := by
        rw [hv, Nat.mul_comm, Nat.mul_add_div hY, Nat.div_eq_of_lt Hr.out]; omega
      have e2 : X % Y = r := by
        rw [hv, Nat.mul_comm, Nat.mul_add_mod, Nat.mod_eq_of_lt Hr.out]
      refine ⟨_, _, rfl, ?_, by rw [e2]; exact Ro.out, Gr.out⟩
      rw [e1, ← trim_eq (by omega) Za.out]
      exact Ho.out.trim
    | succ k =>
      obtain rfl : q = (k : Int) := by omega
      rcases H3.out with h3 | ⟨b, off, rfl, hbl, hyx⟩
      · have := Hn.out; rw [h3] at this; simp at this; omega
      have c1 : wr.cell? ⟨b, off + k, none⟩ = some (.int .i64 (nth xs k)) := by
        rw [World.cell?_of_block (w := w) (Gr.out.block b hbl (by simp)), hyx k (by rw [Hn.out]; omega)]
      have b1 : nth xs k < 10000 := ax.out.nth (by rw [Hn.out]; omega)
      have i1 : (k : Int) < (n : Int) := by omega
      have OO := Lib.hid (one_own wr 3 .i64 (nth xs k) wr.heap.size (Nat.le_refl _))
      have lr := Lib.hid (Nat.le_trans (dig_len_mono (b := 10000) (by omega) (Nat.le_of_lt Hr.out)) ly)
      have RS2 := Lib.hid (Rs.out.grown (grown_alloc wr (.cells #[.int .i64 (nth xs k : Nat)] 3) none) (.inl rfl))
      have Tr := Lib.hid (cons_trim (r := r) b1)
      clear hyx hq
      go_wp2_with (at_builtin; refine wp_appendN rfl _ _ 26 rfl 3 i0 (.int .i64 0) .i64 Try.underlying26 hi hz0 hz1 (by omega) rfl wr.heap.size (.slice (some ⟨wr.heap.size, 0, none⟩) 1 1) [nth xs k] rfl OO.out rp (dig 10000 r).length rcap (dig 10000 r) rfl RS2.out (by have := lr.out; simp; omega) (by simp) ?_; intro v' w3 ho3 g3; have Ho3 := Lib.hid ho3; have G3 := Lib.hid g3; clear ho3 g3)
      have GW3 := Lib.hid (grown_own (v := .slice (some ⟨wr.heap.size, 0, none⟩) 1 1) G3.out (OO.out.mono (show w.heap.size ≤ _ by omega)) (grown_trans Gr.out (grown_alloc _ _ _)))
      have Rr3 := Lib.hid ((Rr.out.grown (grown_alloc wr (.cells #[.int .i64 (nth xs k : Nat)] 3) none) (by simp)).grown G3.out (by simp [Value.ownBlock]; omega))
      have s3 : w.heap.size < w3.heap.size := by have := G3.out.size; simp at this; omega
      obtain ⟨vp, vc, rfl⟩ := Ho3.out.slice
      refine (cut_any _ _ _ _ _ Ho3.out.sl).mono ?_
      rintro e w'' ⟨rfl, rfl⟩
      obtain ⟨T, hT⟩ : ∃ T, nth xs k + 10000 * r = T := ⟨_, rfl⟩
      have hTl : T < 10000 * Y := by have := Hr.out; omega
      rw [hT] at Tr
      have HT := Lib.hid hT
      have Va := Lib.hid (fun g (hg : (Value.slice vp (dig 10000 T).length vc).ownBlock = some g) => (Ho3.out.lt g ((own_slice vp _ _ _ _).trans hg)).1)
      have St := Lib.hid (show Sl w3 .i64 (.slice vp (dig 10000 T).length vc) (dig 10000 T) by rw [← Tr.out]; exact Ho3.out.sl.trim)
      rw [Tr.out]
      clear hT OO RS2 Rs Rr G3 Ho3 Tr c1
      go_wp2_with fail
      go_loopw [9, 10] (fun lo hi wr => ∃ l h : Nat, lo = .int .i64 l ∧ hi = .int .i64 h ∧ l ≤ h ∧ h ≤ 9999 ∧ Hid (Y * l ≤ T) ∧ Hid (T < Y * (h + 1)) ∧ Hid (w3.grownBy wr none)) (fun lo hi _ => (intOf hi - intOf lo).toNat)
      case atStart => exact ⟨0, 9999, rfl, rfl, by omega, by omega, by show _ ≤ _; omega, by show _ < _; omega, grown_refl _ _⟩
      case round =>
        have srO := sr
        obtain ⟨l, h, rfl, rfl, hlh, h99, Hl, Hh, G4⟩ := hrel
        have G5 := Lib.hid (grown_trans GW3.out G4.out)
        have Hy5 := Lib.hid (Hy.out.grown G5.out (.inl rfl))
        have St5 := Lib.hid (St.out.grown G4.out (.inl rfl))
        have Rr5 := Lib.hid (Rr3.out.grown G4.out (by simp))
        have s5 : w.heap.size < wr.heap.size := Nat.lt_of_lt_of_le s3 G4.out.size
        by_cases hlt : l < h
        · obtain ⟨m, hm⟩ : ∃ m, (l + h + 1) / 2 = m := ⟨_, rfl⟩
          obtain ⟨hm1, hm2⟩ := half_lo hm hlt
          have hm' : ((l : Int) + (h : Int) + 1) / 2 = (m : Int) := by omega
          have Ha := Lib.hid hm
          clear hm
          go_wp2_with fail
          refine (RmulAdd_n m 0 Hy5.out (by omega) (by omega) (by omega)).mono ?_
          rintro e w4 ⟨v4, rfl, ho4, g4⟩
          rw [Nat.add_zero] at ho4
          have Ho4 := Lib.hid ho4
          have G6 := Lib.hid (grown_trans G4.out g4)
          have St6 := Lib.hid (St5.out.grown g4 (.inl rfl))
          have sg := g4.size
          clear ho4 g4
          go_wp2_with fail
          refine (RCmp Ho4.out.sl St6.out).mono ?_
          rintro e w5 ⟨rfl, dn, rfl⟩
          have G7 := Lib.hid (grown_trans G6.out (grown_drewN w4 dn none))
          by_cases hle : Y * m ≤ T
          · have hc : cmpN (Y * m) T ≤ 0 := cmpN_le.2 hle
            have Hle := Lib.hid hle
            clear hle
            generalize cmpN (Y * m) T = cv at *
            go_wp2_with fail
            go_roundw
            case rel => exact ⟨m, h, rfl, rfl, hm2, h99, Hle.out, Hh.out, G7.out⟩
            case measure => simp only [intOf]; omega
          · have hc : ¬ cmpN (Y * m) T ≤ 0 := fun h => hle (cmpN_le.1 h)
            have Hle := Lib.hid hle
            clear hle
            generalize cmpN (Y * m) T = cv at *
            go_wp2_with fail
            go_roundw
            case rel => exact ⟨l, m - 1, rfl, int_eq (by omega), by omega, by omega, Hl.out, by show _ < _; rw [show m - 1 + 1 = m by omega]; have := Hle.out; omega, G7.out⟩
            case measure => simp only [intOf]; omega
        · obtain rfl : l = h := by omega
          have f1 : wr.frozen? ⟨w.heap.size, k, none⟩ = false := Rr5.out.frozen _
          have c1 : wr.cell? ⟨w.heap.size, k, none⟩ = some (.int .i64 (nth Z k)) := Rr5.out.cell (by omega)
          have Rs6 := Lib.hid (set_row (t := l) (v := .int .i64 l) Zl.out Rr5.out (show k < n by omega) rfl)
          have G6 := Lib.hid (grown_new G5.out (grown_set wr w.heap.size k (.int .i64 l)) (Nat.le_refl _))
          have Hy6 := Lib.hid (Hy.out.grown G6.out (.inl rfl))
          have St6 := Lib.hid (St5.out.grown (grown_set wr w.heap.size k (.int .i64 l)) (.inr (fun e => by have := Va.out _ e; omega)))
          clear St5 Hy5 Rr5 St
          go_wp2_with fail
          have sw : w.heap.size < (wr.setCell { block := w.heap.size, off := k } (Value.int IntKind.i64 l)).heap.size := by simpa using s5
          generalize wr.setCell { block := w.heap.size, off := k } (Value.int IntKind.i64 l) = w6 at *
          refine (RmulAdd_n l 0 Hy6.out (by omega) (by omega) (by omega)).mono ?_
          rintro e w7 ⟨v7, rfl, ho7, g7⟩
          rw [Nat.add_zero] at ho7
          have Ho7 := Lib.hid ho7
          have G7 := Lib.hid (grown_trans G6.out g7)
          have St7 := Lib.hid (St6.out.grown g7 (.inl rfl))
          have Rr7 := Lib.hid (Rs6.out.grown g7 (by simp))
          have s7 := g7.size
          have lT := Lib.hid (show (dig 10000 T).length ≤ 4000000 from by
            have e1 := dig_len_mono (b := 10000) (by omega) (Nat.le_of_lt hTl)
            have e2 := dig_grow0 Y
            omega)
          clear ho7 g7
          go_wp2_with fail
          refine (RSub St7.out Ho7.out.sl lT.out Hl.out).mono ?_
          rintro e w8 ⟨v8, rfl, ho8, g8⟩
          have Ho8 := Lib.hid ho8
          have s8 := g8.size
          have G8 := Lib.hid (grown_trans G7.out g8)
          have Rr8 := Lib.hid (Rr7.out.grown g8 (by simp))
          clear ho8 g8
          go_wp2_with fail
          go_roundw
          case rel =>
            refine ⟨k, T - Y * l, _, Z.set k l, by omega, rfl, rfl, ?_, ?_, Za.out.set (by omega) k, ?_, Ho8.out.mono (by omega), Rr8.out, G8.out, by omega⟩
            · show _ < _
              have h1 := Hh.out
              have h2 := Hl.out
              rw [Nat.mul_add] at h1
              omega
            · show _ = _
              rw [List.length_set, Zl.out]
            · show _ = _
              rw [set_drop_val _ (by rw [Zl.out]; omega)]
              exact div_round Hv.out HT.out Hl.out (val_drop_step _ _ (by rw [Hn.out]; omega))
          case measure => simp [intOf]

end Go.Proofs.Ytmmmpdpgkjcohaa
