/- slices.Grow of nothing; slices.Concat of polynomials. -/
import Derived.Test.YteblgmjpociffaaGreatCatA
import Derived.Test.YteblgmjpociffaaGreatDivT
import Derived.Test.YteblgmjpociffaaGreatPolL
namespace Go.Proofs.YteblgmjpociffaaGreat.Sym
open Go.RowKit
def Emp (sz : Nat) (e : TypeId) (w : World) (v : Value) : Prop := ∃ g n cap cur, v = .slice (some ⟨g, 0, none⟩) n cap ∧ w.heap[g]? = some (.cells cur e (0, 0)) ∧ cap <= maxLen ∧ cur.size = cap * sz ∧ ∀ x, x ∈ cur.toList -> NoNum x
def mCap (T : TypeId) : Op -> Option (List Operand)
 | .call ⟨.builtin .cap, args, ts⟩ => if ts = #[T] then some args.toList else none
 | _ => none
section
variable {P : Program} {Φ : Nat -> World -> Value -> Prop} {p x j : Nat}
theorem qCapNil {T e : TypeId} (hT : P.underlying T = some (.slice e)) : SiteOk Φ P ⟨0, [.lit .nl], [⟨.one (.lit (.ci .i64 0)), []⟩], .quiet (mCap T)⟩ := fun X w ac o xs _ hm ha => by
 unfold mCap at hm
 split at hm
 case h_2 => cases hm
 rename_i args ts ho
 split at hm
 case isFalse => cases hm
 rename_i hts
 subst hts
 simp only [Option.some.injEq] at hm
 subst hm
 match hl : args.toList, ha with
 | [y], ha =>
  have hv : ac.eval y = .slice none 0 0 := ha.1
  have hargs : args = #[y] := by apply Array.ext'; simpa using hl
  subst hargs
  refine ⟨.int .i64 0, w, ?_, grown_refl w none, ⟨⟨⟨rfl, fun _ h => by cases h⟩, fun r hr => by cases hr⟩, trivial⟩⟩
  unfold execOp
  simp [ho, resolve, invoke, builtin, Builtin.cap_, run_underlying hT, hv, goInt]
theorem qLenNil {T e : TypeId} (hT : P.underlying T = some (.slice e)) : SiteOk Φ P ⟨0, [.lit .nl], [⟨.one (.lit (.ci .i64 0)), []⟩], .quiet (mLen T)⟩ := fun X w ac o xs _ hm ha => by
 unfold mLen at hm
 split at hm
 case h_2 => cases hm
 rename_i args ts ho
 split at hm
 case isFalse => cases hm
 rename_i hts
 subst hts
 simp only [Option.some.injEq] at hm
 subst hm
 match hl : args.toList, ha with
 | [y], ha =>
  have hv : ac.eval y = .slice none 0 0 := ha.1
  have hargs : args = #[y] := by apply Array.ext'; simpa using hl
  subst hargs
  refine ⟨.int .i64 0, w, ?_, grown_refl w none, ⟨⟨⟨rfl, fun _ h => by cases h⟩, fun r hr => by cases hr⟩, trivial⟩⟩
  unfold execOp
  simp [ho, resolve, invoke, builtin, Builtin.len_, run_underlying hT, hv, goInt]
theorem mTo_op {T : TypeId} {o : Op} {xs : List Operand} (h : mTo' T o = some xs) : ∃ y z, o = .slice T y none (some z) none ∧ xs = [y, z] := by
 unfold mTo' at h
 split at h
 case h_2 => cases h
 rename_i t y z
 split at h
 case isFalse => cases h
 rename_i ht
 subst ht
 simp only [Option.some.injEq] at h
 exact ⟨y, z, rfl, h.symm⟩
theorem qToNil {T e : TypeId} {sz : Nat} (hT : P.underlying T = some (.slice e)) (hz : sizeAt P e = some sz) : SiteOk Φ P ⟨0, [.lit .nl, .lit (.ci .i64 0)], [⟨.one (.lit .nl), []⟩], .quiet (mTo' T)⟩ := fun X w ac o xs _ hm ha => by
 obtain ⟨y, z, ho, rfl⟩ := mTo_op hm
 have hv : ac.eval y = .slice none 0 0 := ha.1
 have hi2 : ac.eval z = .int .i64 0 := ha.2.1
 refine ⟨.slice none 0 0, w, ?_, grown_refl w none, ⟨⟨⟨rfl, fun _ h => by cases h⟩, fun r hr => by cases hr⟩, trivial⟩⟩
 unfold execOp
 simp only [ho, Option.map_none, Option.map_some, hv, hi2]
 simp [Instr.sliceAt, Instr.slice, run_underlying hT, Instr.sliceBounds, run_sliceBound (P := P) w .i64 (0 : Int) 0 .sliceAcap (by omega) (by omega), run_sizeOf hz]
theorem qToEmp {T e : TypeId} {sz : Nat} {F : Nat -> World -> Value -> Prop} (hT : P.underlying T = some (.slice e)) (hz : sizeAt P e = some sz) (hp : ∀ w v, Φ p w v -> Emp sz e w v) (hx : Φ x = fun w v => ArrO sz e F 0 w v) : SiteOk Φ P ⟨0, [.fact p, .lit (.ci .i64 0)], [⟨.one .s, [(0, 0, x)]⟩], .loose [] j 0 (mTo' T)⟩ := fun X L w ac o xs hX hL hLX hm ha hb => by
 obtain ⟨y, z, ho, rfl⟩ := mTo_op hm
 obtain ⟨g, n, cap, cur, hv, hh, hc, hs, hn⟩ := hp _ _ (ha.1 w (Off.refl _ _))
 have hi2 : ac.eval z = .int .i64 0 := ha.2.1
 have hLg : L g := hb y g rfl (by rw [hv]; rfl)
 refine ⟨.slice (some ⟨g, 0, none⟩) 0 cap, w, none, ?_, grown_refl w none, (fun _ h => by cases h), Kp.refl _, (fun m k v _ h4 h5 => ⟨h4, h5⟩), fun m hm' => ?_, one_out ⟨⟨_, _, _, rfl⟩, fun _ h => by cases h⟩ hx fun w1 hw => ?_⟩
 ·unfold execOp
  have ha0 : ((some (⟨g, 0, none⟩ : Addr)).map fun y => y.add 0) = some ⟨g, 0, none⟩ := by simp [Addr.add_zero']
  simp only [ho, Option.map_none, Option.map_some, hv, hi2]
  simp [Instr.sliceAt, Instr.slice, run_underlying hT, Instr.sliceBounds, run_sliceBound (P := P) w .i64 (0 : Int) cap .sliceAcap (by omega) (by omega), run_sizeOf hz, Addr.add_zero']
 ·simp only [blk, Option.some.injEq] at hm'
  subst hm'
  exact ⟨hL g hLg, .inl hLg⟩
 ·have hw1 : w1.heap[g]? = some (.cells cur e (0, 0)) := by
   rw [hw.2 g (hL g hLg) (hLX g hLg)]; exact hh
  refine ⟨[], rfl, (fun _ h => by cases h), ⟨⟨by simp, .inr ⟨g, cap, cur, rfl, Nat.zero_le _, hw1, Nat.zero_le _, hc, hs, by simp⟩⟩, fun g' cur' e' p' hg' hh' u hu => ?_⟩, fun i r h => by simp at h⟩
  simp only [Value.ownBlock, Option.some.injEq] at hg'
  subst hg'
  rw [hw1] at hh'
  cases hh'
  exact hn u hu
end
section
variable {Φ : Nat -> World -> Value -> Prop} {p q x n m k j : Nat} {F : Nat -> World -> Value -> Prop} {J : List Nat}
theorem qGrowZ (hq : ∀ w v, Φ q w v -> v = .int .i64 (n : Int)) (h0 : 0 < n) (hn : n <= 1000000) (hx : Φ x = Emp 2 26) : SiteOk Φ Tryz.prog ⟨0, [.lit .nl, .fact q], [⟨.one .s, [(0, 0, x)]⟩], .loose [] j 0 (mApp 23 3)⟩ := fun X L w ac o ys hX hL hLX hm ha hb => by
 obtain ⟨y, u, hys⟩ : ∃ y u, ys.map ac.eval = [y, u] := by
  match ys.map ac.eval, ha with
  | [y, u], _ => exact ⟨y, u, rfl⟩
 rw [show List.map ac.eval ys = [y, u] from hys] at ha
 obtain ⟨a, b, ho, rfl, ea, eb⟩ := mApp_op hm hys
 have hy : y = .slice none 0 0 := ha.1
 have hu := hq _ _ (ha.2.1 w (Off.refl _ _))
 obtain ⟨i0, hi, hz0, hz1, hz2⟩ := info_parts infoI
 have hcm : grownCap w (0 + n) 0 26 <= maxLen := grownCap_le_maxLen w (0 + n) 0 26 (by simp only [maxLen]; omega)
 have hge := grownCap_ge w (0 + n) 0 26
 have hr := Lib.run_append_grow_zeros (P := Tryz.prog) w 23 3 o.type 26 i0 _ .i64 .i64 Tryz.underlying23 Tryz.underlying3 hi hz0 none 0 0 [] (by simp [Builtin.firstCells]) n h0 (by rw [hz1]; omega) (by omega) (by omega) (by rw [hz2]; omega) (growslice_fits (by omega) (by rw [hz2]; omega))
 have hrun := exec_append (o := o) (P := Tryz.prog) ho (by rw [ea, hy]) (by rw [eb, hu]) hr
 have hgr : ∀ b, w.grownBy (w.drew.alloc b) none := fun b => ⟨rfl, rfl, rfl, (World.grownBy_alloc w.drew b none).size, (World.grownBy_alloc w.drew b none).block⟩
 refine ⟨_, _, none, hrun, hgr _, (fun _ h => by cases h), Kp.of (hgr _), (fun m q v _ h4 h5 => ⟨cell_grown (hgr _) h4, frozen_grown (hgr _) h4 h5⟩), fun m hm' => ?_, one_out ⟨⟨_, _, _, rfl⟩, fun _ h => by cases h⟩ hx fun w1 hw => ?_⟩
 ·simp only [blk, Option.some.injEq] at hm'
  subst hm'
  exact ⟨by simp, .inr (Nat.le_refl _)⟩
 ·refine ⟨w.heap.size, _, _, _, rfl, (hw.2 w.heap.size (by simp) (fun h => by have := hX _ h; omega)).trans (heap_alloc_new w.drew _), hcm, ?_, fun u hu => ?_⟩
  ·simp only [Array.size_append, List.size_toArray, List.length_nil, size_zeroCells, Nat.zero_add] at hge ⊢
   rw [show (Value.agg #[.bool false, .slice none 0 0]).cells.size = 2 from rfl]
   omega
  ·simp only [Array.toList_append, List.mem_append] at hu
   rcases hu with (hu | hu) | hu
   ·simp at hu
   ·exact zeroCells_nn zI_nn (by decide) _ u hu
   ·exact zeroCells_nn zI_nn (by decide) _ u hu
end
def b_grow_p (n : Nat) : List (World -> Value -> Prop) := [fun _ v => v = .int .i64 ((n : Nat) : Int), fun _ v => v = .int .i64 ((n : Nat) : Int), Emp 2 26, fun w v => ArrO 2 26 (fun ι w v => IntV w v ((fun _ => 0) ι) 0) 0 w v]
def ss_grow_p : List Step := [.base ⟨0, [.fact 0, .lit (.ci .i64 0)], [⟨.one (.lit (.cb false)), []⟩], .quiet (mBin .lss)⟩,
   .base ⟨0, [.lit .nl], [⟨.one (.lit (.ci .i64 0)), []⟩], .quiet (mCap 23)⟩,
   .base ⟨0, [.lit .nl], [⟨.one (.lit (.ci .i64 0)), []⟩], .quiet (mLen 23)⟩,
   .base ⟨0, [.fact 0, .lit (.ci .i64 0)], [⟨.one (.i), [(0, 0, 1)]⟩], .quiet (mBin .sub)⟩,
   .base ⟨0, [.fact 1, .lit (.ci .i64 0)], [⟨.one (.lit (.cb true)), []⟩], .quiet (mBin .gtr)⟩,
   .base ⟨0, [.lit .nl], [⟨.one (.lit (.ci .i64 0)), []⟩], .quiet (mCap 23)⟩,
   .base ⟨0, [.lit .nl, .lit (.ci .i64 0)], [⟨.one (.lit (.nl)), []⟩], .quiet (mTo' 23)⟩,
   .base ⟨0, [.lit .nl, .fact 1], [⟨.one (.s), [(0, 0, 2)]⟩], .loose [] 1 0 (mApp 23 3)⟩,
   .base ⟨0, [.lit .nl], [⟨.one (.lit (.ci .i64 0)), []⟩], .quiet (mLen 23)⟩,
   .base ⟨0, [.fact 2, .lit (.ci .i64 0)], [⟨.one (.s), [(0, 0, 3)]⟩], .loose [] 1 0 (mTo' 23)⟩]
def ins_grow_p : List Out := [⟨.one (.lit (.nl)), []⟩, ⟨.one (.i), [(0, 0, 0)]⟩]
set_option maxRecDepth 100000 in
theorem grow_p {n : Nat} (hn : n <= 1000000) (h0 : 0 < n) : CallNOk (ph (b_grow_p n)) Tryz.prog ⟨121, [.lit (.nl), .fact 0], [⟨.one (.s), [(0, 0, 3)]⟩], false⟩ := by
 skip
 exact fn_okF ins_grow_p [⟨.one (.s), [(0, 0, 3)]⟩] ss_grow_p Tryz.func121 (by kernel_rfl)
  (lbase (qTestC (op := .lss) (fun _ _ h => h) (ts_run (show decide (((n : Nat) : Int) < 0) = false from decide_eq_false (by omega)) (by simp)))
   (lbase (qCapNil Tryz.underlying23)
   (lbase (qLenNil Tryz.underlying23)
   (lbase (qSubK (fun _ _ h => h) (by omega) rfl (by omega) (by omega))
   (lbase (qTestC (op := .gtr) (fun _ _ h => h) (ts_run (decide_eq_true (by omega)) (by simp)))
   (lbase (qCapNil Tryz.underlying23)
   (lbase (qToNil (sz := 2) Tryz.underlying23 (by kernel_rfl))
   (lbase (qGrowZ (fun _ _ h => h) (by omega) (by omega) rfl)
   (lbase (qLenNil Tryz.underlying23)
   (lbase (qToEmp (F := (fun ι w v => IntV w v ((fun _ => 0) ι) 0)) Tryz.underlying23 (by kernel_rfl) (fun _ _ h => h) rfl)
   lnil))))))))))
  (ins_ok [.lit (.nl), .fact 0 (.one (.i))] ⟨(fun _ h => by cases h), fun _ _ h => h ▸ int_is _, trivial⟩) (fun _ _ _ h => h)
def b_grow_0 (n : Nat) : List (World -> Value -> Prop) := [fun _ v => v = .int .i64 ((n : Nat) : Int), fun _ v => v = .int .i64 ((n : Nat) : Int)]
def ss_grow_0 : List Step := [.base ⟨0, [.fact 0, .lit (.ci .i64 0)], [⟨.one (.lit (.cb false)), []⟩], .quiet (mBin .lss)⟩,
   .base ⟨0, [.lit .nl], [⟨.one (.lit (.ci .i64 0)), []⟩], .quiet (mCap 23)⟩,
   .base ⟨0, [.lit .nl], [⟨.one (.lit (.ci .i64 0)), []⟩], .quiet (mLen 23)⟩,
   .base ⟨0, [.fact 0, .lit (.ci .i64 0)], [⟨.one (.i), [(0, 0, 1)]⟩], .quiet (mBin .sub)⟩,
   .base ⟨0, [.fact 1, .lit (.ci .i64 0)], [⟨.one (.lit (.cb false)), []⟩], .quiet (mBin .gtr)⟩]
def ins_grow_0 : List Out := [⟨.one (.lit (.nl)), []⟩, ⟨.one (.i), [(0, 0, 0)]⟩]
set_option maxRecDepth 100000 in
theorem grow_0 {n : Nat} (h0 : n = 0) : SiteOk (ph (b_grow_0 n)) Tryz.prog ⟨121, [.lit (.nl), .fact 0], [⟨.one (.lit (.nl)), []⟩], false⟩ := by
 skip
 exact fn_okL ins_grow_0 [⟨.one (.lit (.nl)), []⟩] ss_grow_0 Tryz.func121 (by kernel_rfl)
  (lbase (qTestC (op := .lss) (fun _ _ h => h) (ts_run (show decide (((n : Nat) : Int) < 0) = false from decide_eq_false (by omega)) (by simp)))
   (lbase (qCapNil Tryz.underlying23)
   (lbase (qLenNil Tryz.underlying23)
   (lbase (qSubK (fun _ _ h => h) (by omega) rfl (by omega) (by omega))
   (lbase (qTestC (op := .gtr) (fun _ _ h => h) (ts_run (decide_eq_false (by omega)) (by simp)))
   lnil)))))
  (ins_ok [.lit (.nl), .fact 0 (.one (.i))] ⟨(fun _ h => by cases h), fun _ _ h => h ▸ int_is _, trivial⟩) (fun _ _ _ h => h)
def catL (zz : Nat -> Nat -> Int) (ln : Nat -> Nat) : Nat -> List Int
 | 0 => []
 | j + 1 => catL zz ln j ++ mk (ln j) (zz j)
theorem catL_len (zz : Nat -> Nat -> Int) (ln : Nat -> Nat) (j : Nat) : (catL zz ln (j + 1)).length = (catL zz ln j).length + ln j := by
 rw [catL, List.length_append, mk_length]
theorem coef_append (A B : List Int) (i : Nat) : coef (A ++ B) i = if i < A.length then coef A i else coef B (i - A.length) := by
 unfold coef
 simp only [List.getD_eq_getElem?_getD, List.getElem?_append]
 split <;> rfl
theorem rw_slice' {sz n : Nat} {F : Nat -> World -> Value -> Prop} {w : World} {v : Value} (h : Rw sz F n w v) : ∃ p n c, v = .slice p n c := by
 obtain ⟨p, c, rfl, _⟩ := h; exact ⟨_, _, _, rfl⟩
section
variable {Φ : Nat -> World -> Value -> Prop} {p q x n m k j i : Nat} {F : Nat -> World -> Value -> Prop} {J : List Nat} {zz : Nat -> Nat -> Int} {ln : Nat -> Nat}
theorem sGrow (hq : ∀ w v, Φ q w v -> v = .int .i64 (n : Int)) (hx : Φ x = fun w v => ArrO 2 26 F 0 w v) (hn : n <= 1000000) : SiteOk Φ Tryz.prog ⟨121, [.lit .nl, .fact q], [⟨.one .s, [(0, 0, x)]⟩], .callN J j⟩ := by
 rcases Nat.eq_zero_or_pos n with h | h
 ·intro X w vs hX ha
  refine (viaG (outs := [⟨.one (.lit .nl), []⟩]) (Φ := Φ) (ar := [.lit .nl, .fact q]) (grow_0 (n := n) h) ⟨rfl, hq, trivial⟩ ⟨⟨rfl, trivial⟩, trivial⟩ X w vs hX ha).mono fun e w' ⟨hg, us, he, h2⟩ => ?_
  match us, h2 with
  | [u], h2 =>
   have e' : u = .slice none 0 0 := h2.1.1.1
   subst e'
   exact ⟨hg, _, he, one_out ⟨⟨_, _, _, rfl⟩, fun _ h => by cases h⟩ hx fun w1 _ => ArrO.nil _ _ _ _, fun g hg' => by cases hg'⟩
 ·exact viaN (grow_p (n := n) hn h) ⟨rfl, hq, trivial⟩ ⟨⟨rfl, ⟨rfl, rfl, fun _ _ h => by
   rw [hx]
   exact ArrO.to (sz := 2) (e := 26) (n := 0) (F := fun ι w v => IntV w v ((fun _ => 0) ι) 0) h fun i w v hi => absurd hi (by omega)⟩, trivial⟩, trivial⟩
theorem qCat (hn : (catL zz ln (i + 1)).length <= 1000000) (hp : ∀ w v, Φ p w v -> ArrO 2 26 (fun ι w v => IntV w v (coef (catL zz ln i) ι) k) (catL zz ln i).length w v) (hq : ∀ w v, Φ q w v -> Rw 2 (fun ι w v => IntV w v (zz i ι) k) (ln i) w v) (hx : Φ x = fun w v => ArrO 2 26 (fun ι w v => IntV w v (coef (catL zz ln (i + 1)) ι) k) (catL zz ln (i + 1)).length w v) : SiteOk Φ Tryz.prog ⟨0, [.fact p, .fact q], [⟨.one .s, [(0, 0, x)]⟩], .loose [] j 0 (mApp 23 23)⟩ := by
 obtain ⟨i0, hi, hz0, hz1, hz2⟩ := info_parts infoI
 refine qAppM (F' := fun ι w v => IntV w v (coef (catL zz ln (i + 1)) ι) k) Tryz.underlying23 hi hz0 hz1 hz2 rfl (by omega) (by omega) zI_nn (fun _ _ _ _ g h => IntV.kp h g) hp hq (fun ι w v hι h => ?_) (fun ι w v hι h => ?_) (fun ι w l h => IntV.cellsA h) (by rw [<- catL_len]; exact hn) (by rw [hx, catL_len])
 ·rw [catL, coef_append, if_pos hι]; exact h
 ·rw [catL, coef_append, if_neg (by omega), Nat.add_sub_cancel_left, coef_mk, if_pos hι]; exact h
end
def b_concat (zz : Nat -> Nat -> Int) (ln : Nat -> Nat) (n k : Nat) : List (World -> Value -> Prop) := [fun w v => Rw 1 (PRow zz ln k) n w v, fun _ v => v = .int .i64 ((n : Nat) : Int), fun _ v => v = .int .i64 (((catL zz ln n).length : Nat) : Int), fun w v => ArrO 2 26 (fun ι w v => IntV w v ((coef (catL zz ln 0)) ι) k) ((catL zz ln 0).length) w v, fun _ v => v = .int .i64 ((n : Nat) : Int), fun w v => ArrO 2 26 (fun ι w v => IntV w v ((coef (catL zz ln n)) ι) k) ((catL zz ln n).length) w v]
def l_concat_2 (zz : Nat -> Nat -> Int) (ln : Nat -> Nat) (k : Nat) (j : Nat) : List (World -> Value -> Prop) := [fun _ v => v = .int .i64 ((j : Nat) : Int), fun w v => ArrO 2 26 (fun ι w v => IntV w v ((coef (catL zz ln j)) ι) k) ((catL zz ln j).length) w v, fun _ _ => True, fun w v => Ptr 1 (fun w v => ∃ s, v = .agg #[s] ∧ Rw 2 (fun ι w v => IntV w v (zz j ι) k) (ln j) w s) w v, fun w v => Rw 2 (fun ι w v => IntV w v ((zz j) ι) k) (ln j) w v, fun w v => ArrO 2 26 (fun ι w v => IntV w v ((coef (catL zz ln (j + 1))) ι) k) (catL zz ln (j + 1)).length w v, fun _ v => v = .int .i64 (((j + 1) : Nat) : Int)]
def d_concat_2 : LoopD := ⟨[0, 2, 3, 9, 10, 11, 12, 23, 24, 25, 26], [(.slot 27, .i), (.slot 6, .s)], [(.one 0, 6), (.one 1, .at [1] 7), (.one 1, .lo 1)], [.closed (.one (.ci .i64 0)), .from 3, .from 0], 6, [(7, 5)]⟩
def r_concat_2_0 : List Step := [.base ⟨0, [.fact 6, .fact 4], [⟨.one (.lit (.cb true)), []⟩], .quiet (mBin .lss)⟩,
   .base ⟨0, [.fact 0, .fact 6], [⟨.one (.p), [(0, 0, 9)]⟩], .quiet (mIdx 112)⟩,
   .base ⟨0, [.fact 9], [⟨.one (.s), [(0, 0, 10)]⟩], .quiet (mLoad 23)⟩,
   .base ⟨0, [.fact 7, .fact 10], [⟨.one (.s), [(0, 0, 11)]⟩], .loose [] 1 0 (mApp 23 23)⟩,
   .base ⟨0, [.fact 6, .lit (.ci .i64 1)], [⟨.one (.i), [(0, 0, 12)]⟩], .quiet (mBin .add)⟩]
def o_concat_2 : List Step := [.base ⟨0, [.fact 6, .fact 4], [⟨.one (.lit (.cb false)), []⟩], .quiet (mBin .lss)⟩]
def l_concat_1 (zz : Nat -> Nat -> Int) (ln : Nat -> Nat) (k : Nat) (j : Nat) : List (World -> Value -> Prop) := [fun _ v => v = .int .i64 ((j : Nat) : Int), fun _ v => v = .int .i64 (((catL zz ln j).length : Nat) : Int), fun w v => Ptr 1 (fun w v => ∃ s, v = .agg #[s] ∧ Rw 2 (fun ι w v => IntV w v (zz j ι) k) (ln j) w s) w v, fun w v => Rw 2 (fun ι w v => IntV w v ((zz j) ι) k) (ln j) w v, fun _ v => v = .int .i64 (((ln j) : Nat) : Int), fun _ v => v = .int .i64 (((catL zz ln (j + 1)).length : Nat) : Int), fun _ v => v = .int .i64 (((j + 1) : Nat) : Int)]
def d_concat_1 : LoopD := ⟨[0, 2, 9, 10], [(.slot 11, .i), (.slot 3, .i)], [(.one 0, 6), (.one 1, 7)], [.closed (.one (.ci .i64 0)), .closed (.one (.ci .i64 0))], 6, [(7, 2)]⟩
def r_concat_1_0 : List Step := [.base ⟨0, [.fact 6, .fact 1], [⟨.one (.lit (.cb true)), []⟩], .quiet (mBin .lss)⟩,
   .base ⟨0, [.fact 0, .fact 6], [⟨.one (.p), [(0, 0, 8)]⟩], .quiet (mIdx 112)⟩,
   .base ⟨0, [.fact 8], [⟨.one (.s), [(0, 0, 9)]⟩], .quiet (mLoad 23)⟩,
   .base ⟨0, [.fact 9], [⟨.one (.i), [(0, 0, 10)]⟩], .quiet (mLen 23)⟩,
   .base ⟨0, [.fact 7, .fact 10], [⟨.one (.i), [(0, 0, 11)]⟩], .quiet (mBin .add)⟩,
   .base ⟨0, [.fact 11, .lit (.ci .i64 0)], [⟨.one (.lit (.cb false)), []⟩], .quiet (mBin .lss)⟩,
   .base ⟨0, [.fact 6, .lit (.ci .i64 1)], [⟨.one (.i), [(0, 0, 12)]⟩], .quiet (mBin .add)⟩]
def o_concat_1 : List Step := [.base ⟨0, [.fact 6, .fact 1], [⟨.one (.lit (.cb false)), []⟩], .quiet (mBin .lss)⟩]
def ss_concat : List Step := [.base ⟨0, [.fact 0], [⟨.one (.i), [(0, 0, 1)]⟩], .quiet (mLen 112)⟩,
   .loop d_concat_1 [(r_concat_1_0, [.from 12, .from 11])] o_concat_1,
   .base ⟨121, [.lit .nl, .fact 2], [⟨.one (.s), [(0, 0, 3)]⟩], .callN [] 1⟩,
   .base ⟨0, [.fact 0], [⟨.one (.i), [(0, 0, 4)]⟩], .quiet (mLen 112)⟩,
   .loop d_concat_2 [(r_concat_2_0, [.from 12, .from 11, .from 0])] o_concat_2]
def ins_concat : List Out := [⟨.one (.s), [(0, 0, 0)]⟩]
set_option maxRecDepth 100000 in
theorem concat {zz : Nat -> Nat -> Int} {ln : Nat -> Nat} {n k : Nat} (hn : n <= 1000) (hs : ∀ j, j <= n -> (catL zz ln j).length <= 1000000) : SiteOk (ph (b_concat zz ln n k)) Tryz.prog ⟨91, [.fact 0], [⟨.one (.s), [(0, 0, 5)]⟩], false⟩ := by
 have hsn := hs n (Nat.le_refl n)
 exact fn_okL ins_concat [⟨.one (.s), [(0, 0, 5)]⟩] ss_concat Tryz.func91 (by kernel_rfl)
  (lbase (qLen (sz := 1) (n := n) (F := (PRow zz ln k)) Tryz.underlying112 (fun _ _ h => Rw.arr h) rfl)
   (lloop (counted n (fun j => ph (b_concat zz ln n k ++ l_concat_1 zz ln k j)) (fun _ => 0) (fun j p hp => ph_app' (show p < (b_concat zz ln n k).length from hp)) ⟨fun _ => rfl, fun _ => rfl, trivial⟩ (fun j hj => by
   have hs1 := hs (j + 1) (by omega); have hs0 := hs j (by omega)
   exact ⟨(r_concat_1_0, [.from 12, .from 11]), rfl, ⟨fun _ _ h => h, fun _ _ h => h, trivial⟩, (lbase (qTest (op := .lss) (fun _ _ h => h) (fun _ _ h => h) (ts_run (decide_eq_true (by omega)) (by simp)))
   (lbase (qIdx (i := j) (sz := 1) (n := n) (F := (PRow zz ln k)) Tryz.underlying112 (by kernel_rfl) (fun _ _ h => Rw.arr h) (fun _ _ h => h) (by omega) rfl)
   (lbase (qLoadP (by kernel_rfl) (fun _ _ h => h) (fun _ _ h => rw_slice' h) rfl)
   (lbase (qLen (sz := 2) (n := (ln j)) (F := (fun ι w v => IntV w v ((zz j) ι) k)) Tryz.underlying23 (fun _ _ h => Rw.arr h) rfl)
   (lbase (qAddJ (fun _ _ h => h) (fun _ _ h => h) (by rw [catL_len]; omega) rfl (by omega) (by omega))
   (lbase (qTestC (op := .lss) (fun _ _ h => h) (ts_run (show decide ((((catL zz ln (j + 1)).length : Nat) : Int) < 0) = false from decide_eq_false (by omega)) (by simp)))
   (lbase (qAddK (fun _ _ h => h) (by omega) rfl (by omega) (by omega))
   lnil)))))))⟩)
   (lbase (qTest (op := .lss) (fun _ _ h => h) (fun _ _ h => h) (ts_run (decide_eq_false (by omega)) (by simp)))
   lnil)
   (fun q hq w v h => by
    simp only [d_concat_1, List.mem_cons, List.not_mem_nil, or_false] at hq
    rcases hq with rfl
    ·exact (fun h => h) h)) (lbase (sGrow (F := (fun ι w v => IntV w v ((coef (catL zz ln 0)) ι) k)) (fun _ _ h => h) rfl (by omega))
   (lbase (qLen (sz := 1) (n := n) (F := (PRow zz ln k)) Tryz.underlying112 (fun _ _ h => Rw.arr h) rfl)
   (lloop (counted n (fun j => ph (b_concat zz ln n k ++ l_concat_2 zz ln k j)) (fun _ => 0) (fun j p hp => ph_app' (show p < (b_concat zz ln n k).length from hp)) ⟨fun _ => rfl, fun _ _ h => h, fun _ _ _ => trivial, trivial⟩ (fun j hj => by
   skip
   exact ⟨(r_concat_2_0, [.from 12, .from 11, .from 0]), rfl, ⟨fun _ _ h => h, fun _ _ h => h, fun _ _ _ => trivial, trivial⟩, (lbase (qTest (op := .lss) (fun _ _ h => h) (fun _ _ h => h) (ts_run (decide_eq_true (by omega)) (by simp)))
   (lbase (qIdx (i := j) (sz := 1) (n := n) (F := (PRow zz ln k)) Tryz.underlying112 (by kernel_rfl) (fun _ _ h => Rw.arr h) (fun _ _ h => h) (by omega) rfl)
   (lbase (qLoadP (by kernel_rfl) (fun _ _ h => h) (fun _ _ h => rw_slice' h) rfl)
   (lbase (qCat (hs (j + 1) (by omega)) (fun _ _ h => h) (fun _ _ h => h) rfl)
   (lbase (qAddK (fun _ _ h => h) (by omega) rfl (by omega) (by omega))
   lnil)))))⟩)
   (lbase (qTest (op := .lss) (fun _ _ h => h) (fun _ _ h => h) (ts_run (decide_eq_false (by omega)) (by simp)))
   lnil)
   (fun q hq w v h => by
    simp only [d_concat_2, List.mem_cons, List.not_mem_nil, or_false] at hq
    rcases hq with rfl
    ·exact (fun h => h) h)) lnil)))))
  (ins_ok [.fact 0 (.one (.s))] ⟨fun _ _ h => Rw.is (sz := 1) (F := PRow zz ln k) (n := n) h, trivial⟩) (fun _ _ _ h => h)
end Go.Proofs.YteblgmjpociffaaGreat.Sym
