/- Helpers of the laws of layer 2: Same, keep.Int, of, is. -/
import Derived.Test.YtmmmpdpgkjcohaaRefN
namespace Go.Proofs.Ytmmmpdpgkjcohaa
open Go.RowKit

/-- v is the whole number z, normal. -/
def NorI (w : World) (v : Value) (z : Int) : Prop := ∃ p cap, v = .agg #[.bool (decide (z < 0)), .slice p (dig 4294967296 z.natAbs).length cap] ∧ Sl w .u32 (.slice p (dig 4294967296 z.natAbs).length cap) (dig 4294967296 z.natAbs)
theorem NorI.grown {w w' : World} {v : Value} {z : Int} (h : NorI w v z) (g : w.grownBy w' none) : NorI w' v z := by
  obtain ⟨p, cap, h1, h2⟩ := h
  exact ⟨p, cap, h1, h2.grown g (.inl rfl)⟩
theorem OwnI.nor {w : World} {B : Nat} {v : Value} {z : Int} (h : OwnI w B v z) : NorI w v z := by
  obtain ⟨p, cap, h1, h2⟩ := h
  exact ⟨p, cap, h1, h2.sl⟩
theorem NorI.intV {w : World} {v : Value} {z : Int} {k : Nat} (h : NorI w v z) (hb : Bd z.natAbs k) : IntV w v z k := by
  obtain ⟨p, cap, h1, h2⟩ := h
  exact ⟨_, _, _, h1, (show NumC w _ _ _ from ⟨h2, hb⟩).num, (sg_self z).symm⟩

set_option maxHeartbeats 2000000 in
set_option maxRecDepth 100000 in
theorem Same_r {v u : Value} {z : Int} {k : Nat} {w : World} (hx : DecI w v z k) (hk : k ≤ 1000000) (hu : NorI w u z) :
    Calls Try.prog 52 #[v, u] w (Bool_ w true) := by
  obtain ⟨p, cap, rfl, hx⟩ := hx
  obtain ⟨q, cap', rfl, hu⟩ := hu
  have S0 : Kept w [(w.heap.size + 1, 0, (.bool (decide (z < 0)))), (w.heap.size + 1, 1, (.slice q (dig 4294967296 z.natAbs).length cap')), (w.heap.size, 0, (.slice p (dig 10000 z.natAbs).length cap)), (w.heap.size, 1, (.bool (decide (z < 0))))] [] ((w.alloc (.cells #[.slice p (dig 10000 z.natAbs).length cap, .bool (decide (z < 0))] 28)).alloc (.cells #[.bool (decide (z < 0)), .slice q (dig 4294967296 z.natAbs).length cap'] 24)) := ((Kept.start w).box _ _ _ _ rfl).box _ _ _ _ (by simp)
  have Hx := Lib.hid hx
  have Hu := Lib.hid hu
  clear hx hu
  go_enter Try.func52, Try.ntmps52
  go_wp2_with fail
  refine (RTo (Hx.out.grown (Kept.all _ _ S0)).1 (by have := Hx.out.len; omega)).mono ?_
  rintro e w1 ⟨v, rfl, h, hg⟩
  obtain ⟨pv, nv, rfl⟩ := h.slice
  replace S0 := S0.grown _ _ hg
  obtain ⟨p1, cp1, e1, m1, m2, h3⟩ := h.sl
  have hu1 := Hu.out.grown (Kept.all _ _ S0) (.inl rfl)
  obtain ⟨p2, cp2, e2, -, -, h4⟩ := hu1
  simp only [Value.slice.injEq, true_and] at e1 e2
  obtain ⟨rfl, rfl⟩ := e1
  obtain ⟨rfl, rfl⟩ := e2
  clear hg h Hu Hx
  generalize dig 4294967296 z.natAbs = l at *
  obtain ⟨n, hn⟩ : ∃ n, l.length = n := ⟨_, rfl⟩
  have Hn := Lib.hid hn
  rw [hn] at S0 m1 ⊢
  have nb : n ≤ 9223372036854775807 := by omega
  clear hn m1 m2
  have hln : (decide (z < 0) != decide (z < 0)) = false := by simp
  obtain ⟨c0, c1, c2, c3, G⟩ := id S0
  have G1 := Lib.hid G
  clear G S0
  go_wp2_with fail
  go_loopw [25] (fun iv wr => ∃ (i d : Nat), i ≤ n ∧ iv = .int .i64 i ∧ wr = w1.drewN d) (fun iv _ => (n - (intOf iv).toNat))
  case atStart => exact ⟨0, 0, by omega, rfl, rfl⟩
  case round =>
    obtain ⟨i, d, hi, rfl, rfl⟩ := hrel
    by_cases hlt : i < n
    · rcases h3 with h3 | ⟨b1, o1, rfl, hb1, hy1⟩
      · have := Hn.out; rw [h3] at this; simp at this; omega
      rcases h4 with h4 | ⟨b2, o2, rfl, hb2, hy2⟩
      · have := Hn.out; rw [h4] at this; simp at this; omega
      have d1 := hy1 i (by rw [Hn.out]; omega)
      have d2 := hy2 i (by rw [Hn.out]; omega)
      clear hy1 hy2
      have i1 : (i : Int) < (n : Int) := by omega
      have hb : (((nth l i : Nat) : Int) != ((nth l i : Nat) : Int)) = false := by simp
      go_wp2
      go_quiet (fail)
      go_wp2
      go_roundw
      case rel => exact ⟨i + 1, _, by omega, by go_num, rfl⟩
      case measure => simp [intOf]; omega
    · obtain rfl : i = n := by omega
      clear h3 h4
      go_wp2
      go_ret
      exact ⟨rfl, grown_trans G1.out (grown_drewN _ _ _)⟩

theorem Is_l {v u : Value} {z : Int} {k : Nat} {w : World} (hx : DecI w v z k) (hk : k ≤ 1000000) (hu : NorI w u z) :
    Calls Try.prog 14 #[v, u] w (Bool_ w true) := by
  have Hx := Lib.hid hx
  have Hu := Lib.hid hu
  obtain ⟨p, cap, rfl, -⟩ := hx
  obtain ⟨q, cap', rfl, -⟩ := hu
  have S0 : Kept w [(w.heap.size + 1, 0, (.bool (decide (z < 0)))), (w.heap.size + 1, 1, (.slice q (dig 4294967296 z.natAbs).length cap')), (w.heap.size, 0, (.slice p (dig 10000 z.natAbs).length cap)), (w.heap.size, 1, (.bool (decide (z < 0))))] [] ((w.alloc (.cells #[.slice p (dig 10000 z.natAbs).length cap, .bool (decide (z < 0))] 28)).alloc (.cells #[.bool (decide (z < 0)), .slice q (dig 4294967296 z.natAbs).length cap'] 24)) := ((Kept.start w).box _ _ _ _ rfl).box _ _ _ _ (by simp)
  have G0 := Lib.hid (Kept.all _ _ S0)
  clear S0
  go_enter Try.func14, Try.ntmps14
  go_wp2_with fail
  refine (Same_r (Hx.out.grown G0.out) hk (Hu.out.grown G0.out)).mono ?_
  rintro e w1 ⟨rfl, hg⟩
  have G1 := Lib.hid (grown_trans G0.out hg)
  clear hg
  go_wp2_with fail
  go_ret
  exact ⟨rfl, G1.out⟩
theorem SameInt_t {v u : Value} {z y : Int} {w : World} (hv : NorI w v z) (hu : NorI w u y) (e : z = y) : Calls Try.prog 46 #[v, u] w (Bool_ w true) := by
  subst e
  obtain ⟨p, cap, rfl, hv⟩ := hv
  obtain ⟨q, cap', rfl, hu⟩ := hu
  have S0 : Kept w [(w.heap.size + 1, 0, (.bool (decide (z < 0)))), (w.heap.size + 1, 1, (.slice q (dig 4294967296 z.natAbs).length cap')), (w.heap.size, 0, (.bool (decide (z < 0)))), (w.heap.size, 1, (.slice p (dig 4294967296 z.natAbs).length cap))] [] ((w.alloc (.cells #[.bool (decide (z < 0)), .slice p (dig 4294967296 z.natAbs).length cap] 24)).alloc (.cells #[.bool (decide (z < 0)), .slice q (dig 4294967296 z.natAbs).length cap'] 24)) := ((Kept.start w).box _ _ _ _ rfl).box _ _ _ _ (by simp)
  have Hv := Lib.hid hv
  have Hu := Lib.hid hu
  have hb : (decide (z < 0) == decide (z < 0)) = true := by simp
  clear hv hu
  go_enter Try.func46, Try.ntmps46
  go_wp2_with fail
  refine (Same_b (Hv.out.grown (Kept.all _ _ S0) (.inl rfl)) (Hu.out.grown (Kept.all _ _ S0) (.inl rfl))).mono ?_
  rintro e w1 ⟨rfl, hg⟩
  rw [eqB_self]
  have G1 := Lib.hid (grown_trans (Kept.all _ _ S0) hg)
  clear hg
  go_wp2_with fail
  go_ret
  exact ⟨rfl, G1.out⟩

theorem Row_g {p : Option Addr} {n cap k : Nat} {w : World} (hn : n ≤ cap) :
    Calls Try.prog 74 #[.slice p n cap, .int .i64 k] w fun e w' => e = .returned (.slice p (min n k) cap) ∧ w.grownBy w' none :=
  (Row_any hn).mono fun _ _ ⟨h1, h2⟩ => ⟨h1, h2 ▸ grown_refl _ _⟩
set_option maxHeartbeats 1000000 in
theorem Int_k {b : Bool} {p : Option Addr} {cap n : Nat} {xs : List Nat} {w : World} (k : Nat) (h1 : xs.length ≤ cap) (hn : (xs.take k).length = n) :
    Calls Try.prog 47 #[.agg #[.bool b, .slice p xs.length cap], .int .i64 k] w fun e w' => e = .returned (.agg #[.bool b, .slice p n cap]) ∧ w.grownBy w' none := by
  have S0 : Kept w [(w.heap.size, 0, .bool b), (w.heap.size, 1, .slice p xs.length cap)] [w.heap.size + 1] ((w.alloc (.cells #[.bool b, .slice p xs.length cap] 24)).alloc (.cells #[.bool false, .slice none 0 0] 24)) := ((Kept.start w).box _ _ _ _ rfl).res _ _ _ _ _ (by simp)
  have Hm := Lib.hid (show min xs.length k = n by rw [← hn, List.length_take, Nat.min_comm])
  clear hn
  go_enter Try.func47, Try.ntmps47
  go_wp2_with fail
  go_region_held3 (fun w' => w'.cell? ⟨w.heap.size, 0, none⟩ = some (.bool b) ∧ w'.cell? ⟨w.heap.size, 1, none⟩ = some (.slice p xs.length cap) ∧ w'.cell? ⟨w.heap.size + 1, 0, none⟩ = some (cellOf w' ⟨w.heap.size + 1, 0, none⟩) ∧ w'.cell? ⟨w.heap.size + 1, 1, none⟩ = some (cellOf w' ⟨w.heap.size + 1, 1, none⟩) ∧ w'.frozen? ⟨w.heap.size + 1, 0, none⟩ = false ∧ w'.frozen? ⟨w.heap.size + 1, 1, none⟩ = false ∧ w.grownBy w' none) (first | exact Kept.step (W := w) [(w.heap.size, 0, .bool b), (w.heap.size, 1, .slice p xs.length cap)] [w.heap.size + 1] (by assumption) (by assumption) | exact Kept.set (W := w) [(w.heap.size, 0, .bool b), (w.heap.size, 1, .slice p xs.length cap)] [w.heap.size + 1] (by simp <;> omega) (by first | omega | (simp <;> omega)) (by assumption) | exact Kept.step [(w.heap.size, 0, .bool b), (w.heap.size, 1, .slice p xs.length cap)] [w.heap.size + 1] (grown_drew _ _) S0)
    (first | (go_at_call 74; refine (Row_g h1).mono ?_; rintro e w' ⟨rfl, hg⟩))
  rename_i hend
  go_wp2_with fail
  refine post_box24 Try.results47 rfl rfl (set2_read0 hend.2.2.1) (set2_read1 hend.2.2.2.1) ⟨?_, hend.2.2.2.2.2.2⟩
  rw [Hm.out]

/-- What 'of' hands back. -/
def OfL (w : World) (b : Bool) (xs : List Nat) (k : Nat) (e : Ending) (w' : World) : Prop :=
  ∃ p n cap u, e = .returned (.tuple #[.agg #[.bool b, .slice p n cap], u]) ∧ Sl w .u32 (.slice p n cap) (xs.take k) ∧ DecI w' u (sg b (val 4294967296 (xs.take k))) k ∧ w.grownBy w' none
theorem post_of {fn : Func} {R : Ending → World → Prop} {a : Act} {w : World} {r g r' g' : Nat} {x y x' y' : Value} (hres : fn.results = #[ResultVar.cell r 24, ResultVar.cell r' 28]) (hd : a.defers = [])
    (hr : a.tmps[r]? = some (.pointer (some ⟨g, 0, none⟩))) (hr' : a.tmps[r']? = some (.pointer (some ⟨g', 0, none⟩)))
    (c0 : w.cell? ⟨g, 0, none⟩ = some x) (c1 : w.cell? ⟨g, 1, none⟩ = some y) (d0 : w.cell? ⟨g', 0, none⟩ = some x') (d1 : w.cell? ⟨g', 1, none⟩ = some y') (h : R (.returned (.tuple #[.agg #[x, y], .agg #[x', y']])) w) : bodyPost Try.prog fn R .ret a w := by
  simp [bodyPost, results, hres, hr, hr', c0, c1, d0, d1, go_sem, h, hd]
theorem set2_back {w : World} {g : Nat} {u v x : Value} {a : Addr} (h : (set2 w g u v).cell? a = some x) (hg : a.block ≠ g) : w.cell? a = some x := by
  unfold set2 at h
  rwa [World.cell?_setCell_far _ _ _ _ (fun e => hg e.symm), World.cell?_setCell_far _ _ _ _ (fun e => hg e.symm)] at h
theorem ownD_set2 {w : World} {B g : Nat} {v x y : Value} {z : Int} (h : OwnD w B v z) (hg : g < B) : OwnD (set2 w g x y) B v z := by
  obtain ⟨p, cap, h1, h2⟩ := h
  exact ⟨p, cap, h1, h2.grown (set2_grown _ _ _ _) (own_ne h2 hg)⟩
set_option maxHeartbeats 1000000 in
theorem Of_l {b : Bool} {s : Value} {xs : List Nat} {w : World} (k : Nat) (hx : Sl w .u32 s xs) (ax : All 4294967296 xs) (hk : k ≤ 1000000) :
    Calls Try.prog 11 #[.agg #[.bool b, s], .int .i64 k] w (OfL w b xs k) := by
  obtain ⟨p, cap, rfl, h1, -⟩ := id hx
  have Ht := Lib.hid (show Sl w .u32 (.slice p (xs.take k).length cap) (xs.take k) by
    have := hx.take (min xs.length k) (Nat.min_le_left _ _)
    rw [show xs.take (min xs.length k) = xs.take k by
      rcases Nat.le_total xs.length k with h | h
      · rw [Nat.min_eq_left h, List.take_length, List.take_of_length_le h]
      · rw [Nat.min_eq_right h]] at this
    rwa [List.length_take, Nat.min_comm])
  obtain ⟨n, hn⟩ : ∃ n, (xs.take k).length = n := ⟨_, rfl⟩
  have Hn := Lib.hid hn
  rw [hn] at Ht
  clear hn
  have Hi := Lib.hid (show IntV w (.agg #[.bool b, .slice p n cap]) (sg b (val 4294967296 (xs.take k))) k from ⟨_, _, _, rfl, Num.row Ht.out (ax.take k) k (by rw [List.length_take]; omega), rfl⟩)
  have Sa : Kept w [] [w.heap.size + 1 + 1, w.heap.size + 1] (((w.alloc (.cells #[.bool b, .slice p xs.length cap] 24)).alloc (.cells #[.bool false, .slice none 0 0] 24)).alloc (.cells #[.slice none 0 0, .bool false] 28)) := (((Kept.start w).grown _ _ (grown_alloc w (.cells #[.bool b, .slice p xs.length cap] 24) none)).res _ _ _ _ _ (by simp)).res _ _ _ _ _ (by simp)
  have Sb : Kept w [] [w.heap.size] (((w.alloc (.cells #[.bool b, .slice p xs.length cap] 24)).alloc (.cells #[.bool false, .slice none 0 0] 24)).alloc (.cells #[.slice none 0 0, .bool false] 28)) := (((Kept.start w).res _ _ _ _ _ rfl).grown _ _ (grown_alloc _ _ none)).grown _ _ (grown_alloc _ _ none)
  clear hx ax
  go_enter Try.func11, Try.ntmps11
  go_wp2_with fail
  refine (Int_k k h1 Hn.out).mono ?_
  rintro e w1 ⟨rfl, hg⟩
  replace Sa := Sa.grown _ _ hg
  replace Sb := Sb.grown _ _ hg
  clear hg
  obtain ⟨r0, r1, f0, f1, G⟩ := id Sb
  go_wp2_with fail
  have S0 : Kept w [(w.heap.size, 0, .bool b), (w.heap.size, 1, .slice p n cap)] [w.heap.size + 1 + 1, w.heap.size + 1] ((w1.setCell ⟨w.heap.size, 0, none⟩ (.bool b)).setCell ⟨w.heap.size, 1, none⟩ (.slice p n cap)) := ⟨set2_fst r0, set2_snd r1, Kept.set _ _ (by simp) (Nat.le_refl _) Sa⟩
  clear r0 r1 f0 f1 G Sa Sb
  generalize (w1.setCell ⟨w.heap.size, 0, none⟩ (.bool b)).setCell ⟨w.heap.size, 1, none⟩ (.slice p n cap) = W2 at *
  have Hs := S0.size
  have L1 := S0.lt (g := w.heap.size + 1) (by simp)
  have L2 := S0.lt (g := w.heap.size + 1 + 1) (by simp)
  go_region_held3 (fun w' => w'.cell? ⟨w.heap.size, 0, none⟩ = some (.bool b) ∧ w'.cell? ⟨w.heap.size, 1, none⟩ = some (.slice p n cap) ∧ w'.cell? ⟨w.heap.size + 1 + 1, 0, none⟩ = some (cellOf w' ⟨w.heap.size + 1 + 1, 0, none⟩) ∧ w'.cell? ⟨w.heap.size + 1 + 1, 1, none⟩ = some (cellOf w' ⟨w.heap.size + 1 + 1, 1, none⟩) ∧ w'.frozen? ⟨w.heap.size + 1 + 1, 0, none⟩ = false ∧ w'.frozen? ⟨w.heap.size + 1 + 1, 1, none⟩ = false ∧ w'.cell? ⟨w.heap.size + 1, 0, none⟩ = some (cellOf w' ⟨w.heap.size + 1, 0, none⟩) ∧ w'.cell? ⟨w.heap.size + 1, 1, none⟩ = some (cellOf w' ⟨w.heap.size + 1, 1, none⟩) ∧ w'.frozen? ⟨w.heap.size + 1, 0, none⟩ = false ∧ w'.frozen? ⟨w.heap.size + 1, 1, none⟩ = false ∧ w.grownBy w' none) (first | exact Kept.step (W := w) [(w.heap.size, 0, .bool b), (w.heap.size, 1, .slice p n cap)] [w.heap.size + 1 + 1, w.heap.size + 1] (by assumption) (by assumption) | exact Kept.set (W := w) [(w.heap.size, 0, .bool b), (w.heap.size, 1, .slice p n cap)] [w.heap.size + 1 + 1, w.heap.size + 1] (by simp <;> omega) (by first | omega | (simp <;> omega)) (by assumption) | exact Kept.step [(w.heap.size, 0, .bool b), (w.heap.size, 1, .slice p n cap)] [w.heap.size + 1 + 1, w.heap.size + 1] (grown_drew _ _) S0)
    (first | (go_at_call 48; refine (From_r (Hi.out.grown (by go_split_ands; assumption)) hk).mono ?_; rintro e w' ⟨v, rfl, h, bd, hg⟩; obtain ⟨pv, nv, rfl, h2⟩ := id h))
  rename_i hend
  go_wp2_with fail
  refine post_of Try.results11 rfl rfl rfl (set2_far (set2_read0 (set2_back hend.2.2.2.2.2.2.1 (by simp))) (by simp)) (set2_far (set2_read1 (set2_back hend.2.2.2.2.2.2.2.1 (by simp))) (by simp)) (set2_read0 hend.2.2.1) (set2_read1 hend.2.2.2.1) ?_
  refine ⟨p, n, cap, _, rfl, Ht.out, OwnD.decI (ownD_set2 (ownD_set2 h L1) L2) bd, hend.2.2.2.2.2.2.2.2.2.2⟩
end Go.Proofs.Ytmmmpdpgkjcohaa
