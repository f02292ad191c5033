/- Rows of rows of limbs of the call's own; limb.Sum of one; whole.Sum. -/
import Derived.Test.YtmkplojojaopmaaRowsI
import Derived.Test.YtmkplojojaopmaaProds
import Derived.Test.YtmkplojojaopmaaIntA
namespace Go.Proofs.Ytmkplojojaopmaa
open Go.RowKit

/-- v is the row of the slices L, in memory of the call's own (blocks from B on), in whose block no number lies. -/
def OwnS (w : World) (B : Nat) (v : Value) (L : List Value) : Prop :=
  w.ownsRow B 28 1 v L.length L ∧ ∀ g cur e p, v.ownBlock = some g → w.heap[g]? = some (.cells cur e p) → ∀ x, x ∈ cur.toList → NoInt x
theorem OwnS.nil (w : World) (B : Nat) : OwnS w B (.slice none 0 0) [] := ⟨⟨rfl, .inl ⟨rfl, rfl⟩⟩, fun _ _ _ _ h => by simp [Value.ownBlock] at h⟩
theorem OwnS.lt {w : World} {B : Nat} {v : Value} {L : List Value} (h : OwnS w B v L) (g : Nat) (hg : v.ownBlock = some g) : B ≤ g ∧ g < w.heap.size := by
  rcases h.1.2 with ⟨rfl, -⟩ | ⟨g', cap, cur, rfl, hb, hh, -⟩
  · simp [Value.ownBlock] at hg
  · simp only [Value.ownBlock, Option.some.injEq] at hg
    subst hg
    exact ⟨hb, (Array.getElem?_eq_some_iff.1 hh).1⟩
theorem OwnS.grown {w w' : World} {B : Nat} {v : Value} {L : List Value} {row : Option Nat} (h : OwnS w B v L) (g : w.grownBy w' row) (hne : row = none ∨ v.ownBlock ≠ row) : OwnS w' B v L := by
  have hb : ∀ g', v.ownBlock = some g' → w'.heap[g']? = w.heap[g']? := fun g' hg' => g.block g' (h.lt g' hg').2 (by rcases hne with rfl | hne <;> simp_all)
  refine ⟨⟨h.1.1, ?_⟩, fun g' cur e p hg' hh => h.2 g' cur e p hg' (by rw [← hb g' hg']; exact hh)⟩
  rcases h.1.2 with h2 | ⟨g', cap, cur, rfl, hB, hh, h3⟩
  · exact .inl h2
  · exact .inr ⟨g', cap, cur, rfl, hB, by rw [hb g' rfl]; exact hh, h3⟩
theorem OwnS.kp {w w' : World} {B : Nat} {v : Value} {L : List Value} (h : OwnS w B v L) (g : w.grownBy w' v.ownBlock) : Kp w w' := by
  refine ⟨g.size, fun a k n hc => ?_⟩
  have hl := World.block_lt_of_cell? _ _ hc
  by_cases hv : v.ownBlock = some a.block
  · rcases h.1.2 with ⟨rfl, -⟩ | ⟨g', cap, cur, rfl, hB, hh, -⟩
    · simp [Value.ownBlock] at hv
    · simp only [Value.ownBlock, Option.some.injEq] at hv
      obtain ⟨b, off, spot⟩ := a
      have hs : spot = none := World.cell?_spot hc
      subst hs
      simp only at hv
      subst hv
      simp [World.cell?, hh] at hc
      have := h.2 g' cur _ _ rfl hh (.int k n) (by
        rw [← Array.getElem?_toList] at hc
        exact List.mem_of_getElem? hc) k n
      exact absurd rfl this
  · rw [World.cell?_of_block (g.block a.block hl (fun e => hv e.symm))]
    exact hc
theorem OwnS.slS {w : World} {B : Nat} {v : Value} {L : List Value} (h : OwnS w B v L) : SlS w v L.length (fun j => L.getD j undef) := by
  rcases h.1.2 with ⟨rfl, h2⟩ | ⟨g, cap, cur, rfl, hb, hh, h3, h4, h5, h6⟩
  · rw [h2]; exact ⟨none, 0, rfl, Nat.le_refl _, by omega, .inl rfl⟩
  · refine ⟨_, cap, rfl, h3, by simpa [maxLen] using h4, .inr ⟨g, 0, rfl, (Array.getElem?_eq_some_iff.1 hh).1, fun j hj => ?_⟩⟩
    have hx : L[j]? = some (L.getD j undef) := by simp [hj]
    have hx2 : (cur.toList.take (L.length * 1))[j]? = some (L.getD j undef) := by rw [h6]; exact hx
    rw [List.getElem?_take] at hx2
    split at hx2
    · rw [Array.getElem?_toList] at hx2
      simp [World.cell?, hh, hx2]
    · cases hx2
theorem Try.infoS : (Try.prog.info? 28).map (fun i => (i.zero, i.size, i.bytes)) = some (some (.slice none 0 0), 1, 24) := by kernel_rfl
set_option maxRecDepth 100000 in
theorem run_append_s {w : World} {B : Nat} {v : Value} {L : List Value} (ty : TypeId) (h : OwnS w B v L) (p : Option Addr) (n c gx : Nat) (c0 : w.cell? ⟨gx, 0, none⟩ = some (.slice p n c)) (hB : B ≤ w.heap.size) (hl : L.length ≤ 1000000) :
    ∃ v' w', (Builtin.append_ #[63, 63] ty #[v, .slice (some ⟨gx, 0, none⟩) 1 1]).run Try.prog w = .ok v' w' ∧ OwnS w' B v' (L ++ [.slice p n c]) ∧ w.grownBy w' v.ownBlock ∧ (v'.ownBlock = v.ownBlock ∨ v'.ownBlock = some w.heap.size) := by
  obtain ⟨i0, hi, hz0, hz1, hz2⟩ := info_parts Try.infoS
  have hnews : ∀ (j : Nat) u, [Value.slice p n c][j]? = some u → w.cell? (Addr.add ⟨gx, 0, none⟩ j) = some u := fun j u hj => by
    match j, hj with
    | 0, hj => simp at hj; subst hj; rw [Addr.add_lit]; exact c0
    | j + 1, hj => simp at hj
  have hone : ∀ u, u ∈ [Value.slice p n c] → u.oneCell' = true := fun u hu => by
    simp at hu; subst hu; rfl
  have hnn : ∀ x, x ∈ [Value.slice p n c] → NoInt x := fun x hx => by
    simp at hx; subst hx; intro k n e; cases e
  have hzz : ∀ x, x ∈ (Value.slice none 0 0).cells.toList → NoInt x := fun x hx => by
    have : x = .slice none 0 0 := by simpa [Value.cells] using hx
    subst this; intro k n e; cases e
  obtain ⟨v', w', hr, ho, hg, -⟩ := run_append_own (P := Try.prog) w B 63 ty 28 i0 (.slice none 0 0) 1 24 Try.underlying63 hi hz0 hz1 hz2 rfl (by omega) v L.length L h.1 ⟨gx, 0, none⟩ 1 1 [.slice p n c] rfl hnews hone (by simp only [maxLen]; omega) (by omega) hB
  have hL : ∀ x, x ∈ L → NoInt x := fun x hx => by
    rcases h.1.2 with ⟨-, h2⟩ | ⟨g, cap, cur, hv, -, hh, -, -, -, h6⟩
    · rw [List.eq_nil_of_length_eq_zero h2] at hx; simp at hx
    · rw [← h6] at hx
      exact h.2 g cur _ _ (by rw [hv]; rfl) hh x (List.mem_of_mem_take hx)
  refine ⟨v', w', hr, ⟨by rw [List.length_append]; exact ho, ?_⟩, hg, ?_⟩
  all_goals
    rcases h.1.2 with ⟨rfl, h2⟩ | ⟨g, cap, cur, rfl, hb, hh, h3, h4, h5, h6⟩
    · have hr2 := run_append_nil (P := Try.prog) w 63 ty 28 i0 (.slice none 0 0) Try.underlying63 hi hz0 ⟨gx, 0, none⟩ 1 1 [.slice p n c] (by rw [hz1]; rfl) hnews (by omega) (by omega) (by rw [hz2]; omega)
      rw [hr] at hr2
      injection hr2 with e1 e2
      subst e1 e2
      first
      | exact .inr rfl
      | (intro g cur e q hgg hcur x hx
         simp only [Value.ownBlock, Option.some.injEq] at hgg
         subst hgg
         rw [show w.heap.size = w.drew.heap.size from rfl, heap_alloc_new] at hcur
         cases hcur
         simp only [Array.toList_append, List.mem_append] at hx
         rcases hx with hx | hx
         · exact hnn x hx
         · exact zeroCells_no hzz (by simp [Value.cells]) _ x hx)
    · by_cases hroom : L.length + 1 ≤ cap
      · have hr2 := run_append_room (P := Try.prog) w 63 ty 28 i0 Try.underlying63 hi g L.length cap cur hh ⟨gx, 0, none⟩ 1 1 [.slice p n c] (by rw [hz1]; rfl) hnews hone hroom (by rw [hz1, h5]; simp; omega)
        rw [hr] at hr2
        injection hr2 with e1 e2
        subst e1 e2
        first
        | exact .inl rfl
        | (intro g' cur' e q hgg hcur x hx
           simp only [Value.ownBlock, Option.some.injEq] at hgg
           subst hgg
           rw [setRow_heap w g cur _ _ _ hh] at hcur
           cases hcur
           simp only [List.mem_append] at hx
           rcases hx with (hx | hx) | hx
           · exact h.2 g cur _ _ rfl hh x (List.mem_of_mem_take hx)
           · exact hnn x hx
           · exact h.2 g cur _ _ rfl hh x (List.mem_of_mem_drop hx))
      · have holds : ∀ (j : Nat) u, L[j]? = some u → w.cell? (Addr.add ⟨g, 0, none⟩ j) = some u := h.1.cells (g := g) rfl
        have hr2 := run_append_grow (P := Try.prog) w 63 ty 28 i0 (.slice none 0 0) Try.underlying63 hi hz0 ⟨g, 0, none⟩ L.length cap L (by rw [hz1]; exact h.1.1) holds ⟨gx, 0, none⟩ 1 1 [.slice p n c] (by rw [hz1]; rfl) hnews (by omega) (by omega) (growslice_fits (by omega) (by rw [hz2]; omega))
        rw [hr] at hr2
        injection hr2 with e1 e2
        subst e1 e2
        first
        | exact .inr rfl
        | (intro g' cur' e q hgg hcur x hx
           simp only [Value.ownBlock, Option.some.injEq] at hgg
           subst hgg
           rw [show w.heap.size = w.drew.heap.size from rfl, heap_alloc_new] at hcur
           cases hcur
           simp only [Array.toList_append, List.mem_append] at hx
           rcases hx with (hx | hx) | hx
           · exact hL x hx
           · exact hnn x hx
           · exact zeroCells_no hzz (by simp [Value.cells]) _ x hx)
section
variable {w : World} {ops : Array Oper} {rest : List Oper} {o : Oper} {a : Act} {Q : Exit → Act → World → Prop}
/-- .. as an arm of the walk. -/
theorem wp_append_s (hgd : o.guard = none) (s x : Operand) (ho : o.op = .call { callee := .builtin .append, args := #[s, x], argTypes := #[63, 63] })
    (B : Nat) (v : Value) (L : List Value) (hs : a.eval s = v) (hown : OwnS w B v L) (p : Option Addr) (n c gx : Nat) (hx : a.eval x = .slice (some ⟨gx, 0, none⟩) 1 1)
    (c0 : w.cell? ⟨gx, 0, none⟩ = some (.slice p n c)) (hB : B ≤ w.heap.size) (hl : L.length ≤ 1000000)
    (hK : ∀ v' w', OwnS w' B v' (L ++ [.slice p n c]) → w.grownBy w' v.ownBlock → (v'.ownBlock = v.ownBlock ∨ v'.ownBlock = some w.heap.size) → wpList Try.prog ops Q rest (a.put o.dst v') w') : wpList Try.prog ops Q (o :: rest) a w := by
  refine wpList_plain hgd fun K hK' => ?_
  obtain ⟨v', w', hr, h2, h3, h4⟩ := run_append_s o.type hown p n c gx c0 hB hl
  unfold Oper.wp execOp
  simp only [ho, resolve, invoke, builtin, Sem.run_bind, Sem.run_pure, Result.andThen_ok, List.map_toArray, List.map_cons, List.map_nil, hs, hx, hr]
  exact hK' _ _ (hK v' w' h2 h3 h4)
end

/-- Slices of limbs beside the numbers that they make. -/
def sumL (P : List (Value × Nat)) : Nat := (P.map (·.2)).sum
theorem sumF_take (P : List (Value × Nat)) (k : Nat) (hk : k ≤ P.length) : sumF (fun j => (P.getD j (undef, 0)).2) k = sumL (P.take k) := by
  induction k with
  | zero => simp [sumF, sumL]
  | succ k ih =>
    rw [sumF, ih (by omega), List.take_add_one, List.getElem?_eq_getElem (show k < P.length by omega)]
    unfold sumL
    rw [List.map_append, List.sum_append]
    congr 1
    simp [List.getD, List.getElem?_eq_getElem (show k < P.length by omega)]
theorem Sum_l {v : Value} {P : List (Value × Nat)} {B k : Nat} {w : World} (h : OwnS w B v (P.map (·.1))) (hn : ∀ r, r ∈ P → Num w r.1 r.2 k) (hk : k + P.length ≤ 1000000) :
    Calls Try.prog 39 #[v] w (Made 42 .u32 w (dig 4294967296 (sumL P))) := by
  have each : ∀ j, j < P.length → ∃ xs : List Nat, Sl w .u32 ((P.map (·.1)).getD j undef) xs ∧ All 4294967296 xs ∧ val 4294967296 xs = (P.getD j (undef, 0)).2 ∧ xs.length ≤ k := fun j hj => by
    have := hn P[j] (List.getElem_mem hj)
    obtain ⟨xs, h1, h2, h3, h4⟩ := this
    refine ⟨xs, ?_, h2, ?_, h4⟩
    · simpa [List.getD, hj] using h1
    · simpa [List.getD, hj] using h3
  obtain ⟨ls, hls⟩ := Deep.choose_lt each
  have hs := h.slS
  rw [List.length_map] at hs
  have hsum : sumF (fun j => val 4294967296 (ls j)) P.length = sumL P := by
    have e := sumF_take P P.length (Nat.le_refl _)
    rw [List.take_length] at e
    rw [← e]
    have : ∀ m, m ≤ P.length → sumF (fun j => val 4294967296 (ls j)) m = sumF (fun j => (P.getD j (undef, 0)).2) m := by
      intro m
      induction m with
      | zero => intro _; rfl
      | succ m ih => intro hm; rw [sumF, sumF, ih (by omega), (hls m (by omega)).2.2.1]
    exact this _ (Nat.le_refl _)
  rw [← hsum]
  exact Sum_any v P.length _ ls w hs (fun j hj => (hls j hj).1) (fun j hj => (hls j hj).2.1) k (fun j hj => (hls j hj).2.2.2) (by omega)

theorem Bx.far {W w w' : World} {bs : List (Nat × Value × Value)} {v : Value} {B C : Nat} (h : Bx W bs w) (g : w.grownBy w' v.ownBlock) (hB : ∀ gg, v.ownBlock = some gg → B ≤ gg ∧ gg < C) (hb : ∀ b, b ∈ bs → b.1 < B ∨ C ≤ b.1) (hW : W.heap.size ≤ B) : Bx W bs w' := by
  have hg : W.grownBy w' none := by
    cases hv : v.ownBlock with
    | none => rw [hv] at g; exact grown_trans h.all g
    | some gg => rw [hv] at g; exact grown_new h.all g (Nat.le_trans hW (hB gg hv).1)
  rw [Bx.iff] at h ⊢
  refine ⟨fun b hm => ?_, hg⟩
  have hc := h.1 b hm
  have hne : some b.1 ≠ v.ownBlock := fun e => by
    have h1 := hB b.1 e.symm
    have h2 := hb b hm
    omega
  have hl : b.1 < w.heap.size := cell_lt hc.1
  have hbk := g.block b.1 hl hne
  refine ⟨?_, ?_, ?_, ?_⟩
  · rw [World.cell?_of_block hbk]; exact hc.1
  · rw [World.cell?_of_block hbk]; exact hc.2.1
  · have := hc.2.2.1; simp only [World.frozen?, hbk] at this ⊢; exact this
  · have := hc.2.2.2; simp only [World.frozen?, hbk] at this ⊢; exact this
/-- The sum of the first ones. -/
def sumZ (zs : Nat → Int) : Nat → Int
  | 0 => 0
  | n + 1 => sumZ zs n + zs n
theorem sumL_app (P : List (Value × Nat)) (s : Value) (X : Nat) : sumL (P ++ [(s, X)]) = sumL P + X := by simp [sumL]
theorem sumL_le {P : List (Value × Nat)} {k : Nat} {w : World} (h : ∀ r, r ∈ P → Num w r.1 r.2 k) : sumL P ≤ P.length * 4294967296 ^ k := by
  induction P with
  | nil => simp [sumL]
  | cons r P ih =>
    have h1 := ih (fun r' hr' => h r' (by simp [hr']))
    have h2 : r.2 < 4294967296 ^ k := (h r (by simp)).bd
    simp only [sumL, List.map_cons, List.sum_cons, List.length_cons] at h1 ⊢
    rw [Nat.add_mul, Nat.one_mul]
    omega
theorem sumL_bd {P : List (Value × Nat)} {k : Nat} {w : World} (h : ∀ r, r ∈ P → Num w r.1 r.2 k) (hP : P.length ≤ 1000000) : Bd (sumL P) (k + 1) := by
  unfold Bd
  have h1 := sumL_le h
  have h2 := Nat.mul_le_mul_right (4294967296 ^ k) hP
  have h3 : 0 < 4294967296 ^ k := Nat.pow_pos (by omega)
  rw [Nat.pow_succ]
  omega
theorem apart1 {a b : Option Nat} (h : a = none ∨ a ≠ b) : a = none ∨ b ≠ a := by
  rcases h with h | h
  · exact .inl h
  · exact .inr (Ne.symm h)
theorem apart2 {a b : Option Nat} (h : a = none ∨ a ≠ b) : b = none ∨ a ≠ b := by
  cases b with
  | none => exact .inl rfl
  | some x =>
    rcases h with h | h
    · exact .inr (by rw [h]; simp)
    · exact .inr h
theorem nums_kpL {w w' : World} {P : List (Value × Nat)} {k : Nat} (h : ∀ r, r ∈ P → Num w r.1 r.2 k) (g : Kp w w') : ∀ r, r ∈ P → Num w' r.1 r.2 k := fun r hr => (h r hr).kp g
theorem nums_appL {w : World} {P : List (Value × Nat)} {k : Nat} (h : ∀ r, r ∈ P → Num w r.1 r.2 k) {s : Value} {X : Nat} (hs : Num w s X k) : ∀ r, r ∈ P ++ [(s, X)] → Num w r.1 r.2 k := fun r hr => by
  rcases List.mem_append.1 hr with hr | hr
  · exact h r hr
  · simp at hr; subst hr; exact hs
set_option maxRecDepth 100000 in
set_option maxHeartbeats 4000000 in
theorem Sum_i {v : Value} {n k : Nat} {zs : Nat → Int} {w : World} (hv : RowZ w v n zs k) (hk : k + n ≤ 100000) :
    Calls Try.prog 12 #[v] w (MadeI w (sumZ zs n) (k + 1 + (k + 1))) := by
  obtain ⟨p0, cap0, rfl, h1, h2, h3⟩ := hv
  have S : Bx w [(w.heap.size, .bool false, .slice none 0 0)] (w.alloc (.cells #[.bool false, .slice none 0 0] 30)) := (Bx.start w).box _ _ _ _ rfl
  have H3 := Lib.hid h3
  clear h3
  go_enter Try.func12, Try.ntmps12
  go_wp2_with fail
  go_loopw [3, 4, 9] (fun pv mv iv wr => ∃ (j : Nat) (P M : List (Value × Nat)), j ≤ n ∧ iv = .int .i64 (j : Int) ∧ P.length + M.length = j ∧ Hid (OwnS wr (w.heap.size + 1) pv (P.map (·.1))) ∧ Hid (OwnS wr (w.heap.size + 1) mv (M.map (·.1))) ∧
    Hid (∀ r, r ∈ P → Num wr r.1 r.2 k) ∧ Hid (∀ r, r ∈ M → Num wr r.1 r.2 k) ∧ Hid ((sumL P : Int) - (sumL M : Int) = sumZ zs j) ∧ Hid (pv.ownBlock = none ∨ pv.ownBlock ≠ mv.ownBlock) ∧ Hid (Bx w [(w.heap.size, .bool false, .slice none 0 0)] wr)) (fun _ _ iv _ => n - (intOf iv).toNat)
  case atStart => exact ⟨0, [], [], Nat.zero_le _, rfl, rfl, OwnS.nil _ _, OwnS.nil _ _, (fun r hr => by simp at hr), (fun r hr => by simp at hr), rfl, .inl rfl, S⟩
  case round =>
    obtain ⟨j, P, M, hj, rfl, hlen, OP, OM, NP, NM, E, NE, S1⟩ := hrel
    clear S
    have hS := S1.out
    have lt0 := hS.lt (g := w.heap.size) (x := .bool false) (y := .slice none 0 0) (by simp)
    by_cases hlt : j < n
    · have i1 : (j : Int) < (n : Int) := by omega
      rcases H3.out with h3 | ⟨b, off, rfl, hc⟩
      · omega
      obtain ⟨x, s, X, c0, c1', hn, hzj⟩ := hc j hlt
      replace c0 := cell_grown hS.all c0
      replace c1' := cell_grown hS.all c1'
      obtain ⟨ps, ns, cs, rfl⟩ := hn.slice
      have g1 := grown_alloc wr (.cells #[.bool x, .slice ps ns cs] 30) none
      have HN := Lib.hid ((hn.grown hS.all).grown g1)
      have EZ := Lib.hid hzj
      have S2 := Lib.hid (Bx.step _ g1 hS)
      replace OP := Lib.hid (OP.out.grown g1 (.inl rfl))
      replace OM := Lib.hid (OM.out.grown g1 (.inl rfl))
      replace NP := Lib.hid (nums_kpL NP.out (Kp.of g1))
      replace NM := Lib.hid (nums_kpL NM.out (Kp.of g1))
      clear hc hn hzj hS S1 g1
      cases x
      · have OA := Lib.hid (OP.out.grown (grown_alloc (wr.alloc (.cells #[.bool false, .slice ps ns cs] 30)) (.cells #[.slice ps ns cs] 28) none) (.inl rfl))
        have OB := OM
        have OBa := Lib.hid (OM.out.grown (grown_alloc (wr.alloc (.cells #[.bool false, .slice ps ns cs] 30)) (.cells #[.slice ps ns cs] 28) none) (.inl rfl))
        have N1 := Lib.hid (nums_kpL NP.out (Kp.of (grown_alloc (wr.alloc (.cells #[.bool false, .slice ps ns cs] 30)) (.cells #[.slice ps ns cs] 28) none)))
        have N2 := Lib.hid (nums_kpL NM.out (Kp.of (grown_alloc (wr.alloc (.cells #[.bool false, .slice ps ns cs] 30)) (.cells #[.slice ps ns cs] 28) none)))
        have HN1 := Lib.hid (HN.out.grown (grown_alloc (wr.alloc (.cells #[.bool false, .slice ps ns cs] 30)) (.cells #[.slice ps ns cs] 28) none))
        have S3 := Lib.hid (Bx.step _ (grown_alloc (wr.alloc (.cells #[.bool false, .slice ps ns cs] 30)) (.cells #[.slice ps ns cs] 28) none) S2.out)
        have ll : (P.map (·.1)).length ≤ 1000000 := by simp; omega
        have gg0 := S2.out.all.size
        simp only [World.size_alloc] at gg0
        go_upto_region 8 with (at_builtin; refine wp_append_s rfl _ _ rfl (w.heap.size + 1) u3 (P.map (fun r : Value × Nat => r.1)) rfl OA.out ps ns cs (wr.heap.size + 1) rfl (by simp [go_sem]) (by simp; omega) ll ?_; intro v5 w5 hown hgr hob)
        have K5 := OA.out.kp hgr
        have O5 := Lib.hid hown
        have OB5 := Lib.hid (OBa.out.grown hgr (apart1 NE.out))
        have S5 := Lib.hid (Bx.far S3.out hgr (fun gg e => OA.out.lt gg e) (by simp) (by omega))
        have N5 := Lib.hid (nums_appL (nums_kpL N1.out K5) (HN1.out.kp K5))
        have NB5 := Lib.hid (nums_kpL N2.out K5)
        have NE5 := Lib.hid (show v5.ownBlock = none ∨ v5.ownBlock ≠ u4.ownBlock from by
          rcases hob with e | e
          · rw [e]; exact NE.out
          · right
            rw [e]
            intro h
            have := (OB.out.lt _ h.symm).2
            simp only [World.size_alloc] at this
            omega)
        have E5 := Lib.hid (show ((sumL (P ++ [(Value.slice ps ns cs, X)]) : Nat) : Int) - (sumL M : Int) = sumZ zs (j + 1) by rw [sumL_app, sumZ, EZ.out, ← E.out, show sg false X = (X : Int) from rfl]; omega)
        clear hown hgr hob K5 OA OB OBa N1 N2 HN1 S3 S2 OP OM NP NM NE E EZ HN
        go_wp2_with fail
        go_roundw
        case rel => exact ⟨j + 1, P ++ [(Value.slice ps ns cs, X)], M, by omega, by go_num, by simp; omega, by rw [List.map_append]; exact O5.out, OB5.out, N5.out, NB5.out, E5.out, NE5.out, S5.out⟩
        case measure => simp [intOf] <;> omega
      · have OA := Lib.hid (OM.out.grown (grown_alloc (wr.alloc (.cells #[.bool true, .slice ps ns cs] 30)) (.cells #[.slice ps ns cs] 28) none) (.inl rfl))
        have OB := OP
        have OBa := Lib.hid (OP.out.grown (grown_alloc (wr.alloc (.cells #[.bool true, .slice ps ns cs] 30)) (.cells #[.slice ps ns cs] 28) none) (.inl rfl))
        have N1 := Lib.hid (nums_kpL NM.out (Kp.of (grown_alloc (wr.alloc (.cells #[.bool true, .slice ps ns cs] 30)) (.cells #[.slice ps ns cs] 28) none)))
        have N2 := Lib.hid (nums_kpL NP.out (Kp.of (grown_alloc (wr.alloc (.cells #[.bool true, .slice ps ns cs] 30)) (.cells #[.slice ps ns cs] 28) none)))
        have HN1 := Lib.hid (HN.out.grown (grown_alloc (wr.alloc (.cells #[.bool true, .slice ps ns cs] 30)) (.cells #[.slice ps ns cs] 28) none))
        have S3 := Lib.hid (Bx.step _ (grown_alloc (wr.alloc (.cells #[.bool true, .slice ps ns cs] 30)) (.cells #[.slice ps ns cs] 28) none) S2.out)
        have ll : (M.map (·.1)).length ≤ 1000000 := by simp; omega
        have gg0 := S2.out.all.size
        simp only [World.size_alloc] at gg0
        go_upto_region 8 with (at_builtin; refine wp_append_s rfl _ _ rfl (w.heap.size + 1) u4 (M.map (fun r : Value × Nat => r.1)) rfl OA.out ps ns cs (wr.heap.size + 1) rfl (by simp [go_sem]) (by simp; omega) ll ?_; intro v5 w5 hown hgr hob)
        have K5 := OA.out.kp hgr
        have O5 := Lib.hid hown
        have OB5 := Lib.hid (OBa.out.grown hgr (apart2 NE.out))
        have S5 := Lib.hid (Bx.far S3.out hgr (fun gg e => OA.out.lt gg e) (by simp) (by omega))
        have N5 := Lib.hid (nums_appL (nums_kpL N1.out K5) (HN1.out.kp K5))
        have NB5 := Lib.hid (nums_kpL N2.out K5)
        have NE5 := Lib.hid (show u3.ownBlock = none ∨ u3.ownBlock ≠ v5.ownBlock from by
          rcases hob with e | e
          · rw [e]; exact NE.out
          · right
            rw [e]
            intro h
            have := (OB.out.lt _ h).2
            simp only [World.size_alloc] at this
            omega)
        have E5 := Lib.hid (show (sumL P : Int) - ((sumL (M ++ [(Value.slice ps ns cs, X)]) : Nat) : Int) = sumZ zs (j + 1) by rw [sumL_app, sumZ, EZ.out, ← E.out, show sg true X = -(X : Int) from rfl]; omega)
        clear hown hgr hob K5 OA OB OBa N1 N2 HN1 S3 S2 OP OM NP NM NE E EZ HN
        go_wp2_with fail
        go_roundw
        case rel => exact ⟨j + 1, P, M ++ [(Value.slice ps ns cs, X)], by omega, by go_num, by simp; omega, OB5.out, by rw [List.map_append]; exact O5.out, NB5.out, N5.out, E5.out, NE5.out, S5.out⟩
        case measure => simp [intOf] <;> omega
    · obtain rfl : j = n := by omega
      clear hS
      have lP : k + P.length ≤ 1000000 := by omega
      have lM : k + M.length ≤ 1000000 := by omega
      have BP := Lib.hid (sumL_bd NP.out (by omega))
      have BM := Lib.hid (sumL_bd NM.out (by omega))
      go_wp2_with fail
      with_reducible refine (Sum_l OP.out NP.out lP).mono ?_
      rintro e w3 ⟨v3, rfl, h3o, g3⟩
      have H3o := Lib.hid (show NumC w3 v3 (sumL P) (k + 1) from ⟨h3o.sl, BP.out⟩)
      replace OM := Lib.hid (OM.out.grown g3 (.inl rfl))
      replace NM := Lib.hid (nums_kpL NM.out (Kp.of g3))
      replace S1 := Lib.hid (Bx.step _ g3 S1.out)
      clear h3o g3 OP NP NE
      go_wp2_with fail
      with_reducible refine (Sum_l OM.out NM.out lM).mono ?_
      rintro e w4 ⟨v4, rfl, h4o, g4⟩
      have H4o := Lib.hid (show NumC w4 v4 (sumL M) (k + 1) from ⟨h4o.sl, BM.out⟩)
      replace H3o := Lib.hid (H3o.out.grown g4)
      replace S1 := Lib.hid (Bx.step _ g4 S1.out)
      clear h4o g4 OM NM
      have kk : k + 1 + (k + 1) ≤ 1000000 := by omega
      go_wp2_with fail
      with_reducible refine (Difference_n H3o.out.num H4o.out.num kk).mono ?_
      rintro e w5 ⟨v5, rfl, ho, b5, g5⟩
      obtain ⟨z5, hz5⟩ : ∃ z5 : Int, (sumL P : Int) - (sumL M : Int) = z5 := ⟨_, rfl⟩
      rw [hz5] at ho b5
      have Z5 := Lib.hid (show z5 = sumZ zs j from hz5.symm.trans E.out)
      have sz4 := S1.out.all.size
      have lt4 := S1.out.lt (g := w.heap.size) (x := .bool false) (y := .slice none 0 0) (by simp)
      have hS := Bx.step _ g5 S1.out
      obtain ⟨p5, c5, rfl, h5'⟩ := id ho
      have S2 := hS.put (g := w.heap.size) (u := .bool (decide (z5 < 0))) (v := .slice p5 (dig 4294967296 (z5).natAbs).length c5) (x := .bool false) (y := .slice none 0 0) (bs' := []) (by simp) (by simp) (by simp) (by omega)
      have O2 := ownI_set2 (g := w.heap.size) (x := .bool (decide (z5 < 0))) (y := .slice p5 (dig 4294967296 (z5).natAbs).length c5) ho (fun e => by have := (OwnI.lt ho _ e).1; omega)
      have B5 := Lib.hid b5
      clear hz5 h5' b5 ho H3o H4o E
      obtain ⟨e0, e1, e2, e3, G⟩ := id hS
      go_wp2_with fail
      refine post_box24 Try.results12 rfl rfl S2.1 S2.2.1 ⟨_, rfl, ?_, ?_, S2.all⟩
      · rw [← Z5.out]; exact O2.mono (by omega)
      · rw [← Z5.out]; exact B5.out

end Go.Proofs.Ytmkplojojaopmaa
