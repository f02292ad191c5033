/- Rows with zeros behind: copies, append of zeros, and the calls that WholeShapes makes besides, as calls of the symbolic walk. -/
import Derived.Test.YtckhcijknfkghaaSymS
import Derived.Lib.AppendZerosOnto
namespace Go.Proofs.Ytckhcijknfkghaa.Sym
open Go.RowKit
def mApp (T U : TypeId) : Op → Option (List Operand)
  | .call ⟨.builtin .append, args, ts⟩ => if ts = #[T, U] then some args.toList else none
  | _ => none
/-- A row at the head of a block whose other cells are 0. -/
def ZRow (w : World) (v : Value) (xs : List Nat) : Prop := (v = .slice none 0 0 ∧ xs = []) ∨
  ∃ g cap, v = .slice (some ⟨g, 0, none⟩) xs.length cap ∧ xs.length ≤ cap ∧ cap ≤ 9223372036854775807 ∧ w.heap[g]? = some (.cells (vals .u32 (xs ++ List.replicate (cap - xs.length) 0)).toArray 32 (0, 0))
theorem vals_at (xs ys : List Nat) {j : Nat} (h : j < xs.length) : (vals .u32 (xs ++ ys)).toArray[j]? = some (.int .u32 (nth xs j)) := by
  rw [vals_app]
  simp only [List.getElem?_toArray]
  rw [List.getElem?_append_left (by rw [vals_len]; exact h)]
  exact vals_get .u32 xs h
theorem ZRow.sl {w : World} {v : Value} {xs : List Nat} (h : ZRow w v xs) : Sl w .u32 v xs := by
  rcases h with ⟨rfl, rfl⟩ | ⟨g, cap, rfl, h1, h2, h3⟩
  · exact Sl.nil w .u32
  · refine ⟨_, cap, rfl, h1, h2, .inr ⟨g, 0, rfl, (Array.getElem?_eq_some_iff.1 h3).1, fun j hj => ?_⟩⟩
    simp only [World.cell?, h3, Nat.zero_add]
    simp only [Option.isSome_none, Bool.false_eq_true, if_false]
    exact vals_at _ _ hj
theorem ZRow.slice {w : World} {v : Value} {xs : List Nat} (h : ZRow w v xs) : ∃ p n c, v = .slice p n c := by
  rcases h with ⟨rfl, _⟩ | ⟨g, cap, rfl, _⟩
  · exact ⟨_, _, _, rfl⟩
  · exact ⟨_, _, _, rfl⟩
/-- It grows within its block. -/
theorem ZRow.more {w : World} {g n cap : Nat} {xs : List Nat} (k : Nat) (h : ZRow w (.slice (some ⟨g, 0, none⟩) n cap) xs) (hk : n + k ≤ cap) : ZRow w (.slice (some ⟨g, 0, none⟩) (n + k) cap) (xs ++ List.replicate k 0) := by
  rcases h with ⟨e, _⟩ | ⟨g', cap', e, h1, h2, h3⟩
  · cases e
  · simp only [Value.slice.injEq, Option.some.injEq, Addr.mk.injEq, and_true] at e
    obtain ⟨rfl, rfl, rfl⟩ := e
    refine .inr ⟨g, cap, by simp, by simpa using hk, h2, ?_⟩
    rw [h3, List.append_assoc, List.replicate_append_replicate]
    simp only [List.length_append, List.length_replicate]
    congr 6
    omega
/-- A new block. -/
theorem ZRow.new {w w1 : World} {X : Nat → Prop} {o : Obj} {xs : List Nat} {cap : Nat} (hX : ∀ k, X k → k < w.heap.size) (h1 : xs.length ≤ cap) (h2 : cap ≤ 9223372036854775807) (ho : o = .cells (vals .u32 (xs ++ List.replicate (cap - xs.length) 0)).toArray 32 (0, 0)) (hw : Off X (w.drew.alloc o) w1) :
    ZRow w1 (.slice (some ⟨w.heap.size, 0, none⟩) xs.length cap) xs := by
  subst ho
  refine .inr ⟨_, cap, rfl, h1, h2, ?_⟩
  have hlt : w.heap.size < (w.drew.alloc (.cells (vals .u32 (xs ++ List.replicate (cap - xs.length) 0)).toArray 32 (0, 0))).heap.size := by simp
  rw [hw.2 _ hlt (fun h => by have := hX _ h; omega)]
  exact heap_alloc_new w.drew _
theorem grown_drew_alloc (w : World) (o : Obj) : w.grownBy (w.drew.alloc o) none := ⟨rfl, rfl, rfl, by simp, fun q hq _ => Below.heap_alloc w.drew _ q hq⟩
theorem mApp_op {T U : TypeId} {o : Op} {y u : Value} {f : Operand → Value} {xs : List Operand} (h : mApp T U o = some xs) (hl : xs.map f = [y, u]) : ∃ a b, o = .call ⟨.builtin .append, #[a, b], #[T, U]⟩ ∧ f a = y ∧ f b = u := by
  unfold mApp at h
  split at h
  case h_2 => cases h
  rename_i args ts
  split at h
  case isFalse => cases h
  rename_i hts
  subst hts
  simp only [Option.some.injEq] at h
  subst h
  match hl' : args.toList, hl with
  | [a, b], hl =>
    have hargs : args = #[a, b] := by apply Array.ext'; simpa using hl'
    subst hargs
    simp only [List.map_cons, List.map_nil, List.cons.injEq, and_true] at hl
    exact ⟨a, b, rfl, hl.1, hl.2⟩
theorem exec_append {P : Program} {T U : TypeId} {o : Oper} {a b : Operand} {ac : Act} {w w' : World} {y u v : Value} (ho : o.op = .call ⟨.builtin .append, #[a, b], #[T, U]⟩) (h1 : ac.eval a = y) (h2 : ac.eval b = u) (hr : (Builtin.append_ #[T, U] o.type #[y, u]).run P w = .ok v w') : (execOp ac.eval o).run P w = .ok (.value v) w' := by
  unfold execOp
  simp [ho, resolve, invoke, builtin, h1, h2, hr]
section
variable {Φ : Nat → World → Value → Prop} {p q x : Nat}
theorem out_s {X : Nat → Prop} {w : World} {v : Value} {F : World → Value → Prop} (hx : Φ x = F) (hs : ∃ p n c, v = .slice p n c) (hf : ∀ w1, Off X w w1 → F w1 v) : outsOk Φ X w [⟨.one .s, [(0, 0, x)]⟩] [v] := by
  obtain ⟨p, n, c, rfl⟩ := hs
  refine ⟨⟨⟨⟨_, _, _, rfl⟩, fun _ h => by cases h⟩, fun t ht w1 hw => ?_⟩, trivial⟩
  simp only [List.mem_singleton] at ht
  subst ht
  show Φ x w1 _
  rw [hx]; exact hf w1 hw
theorem args2 {X : Nat → Prop} {w : World} {A B : Arg} {l : List Value} (h : argsOk Φ X w [A, B] l) : ∃ y u, l = [y, u] ∧ A.ok Φ X w y ∧ B.ok Φ X w u := by
  match l, h with
  | [y, u], h => exact ⟨y, u, rfl, h.1, h.2.1⟩
/-- A row is copied behind nothing. -/
theorem qAppendNil {xs : List Nat} (hp : ∀ w v, Φ p w v → Sl w .u32 v xs) (hx : Φ x = fun w v => ZRow w v xs) (hl : xs.length ≤ 17592186044415) : SiteOk Φ Try.prog ⟨0, [.lit .nl, .fact p], [⟨.one .s, [(0, 0, x)]⟩], .quiet (mApp 22 22)⟩ := fun X w ac o ys hX hm ha => by
  obtain ⟨y, u, e0, ha1, ha2⟩ := args2 ha
  obtain ⟨a, b, ho, e1, e2⟩ := mApp_op hm e0
  obtain ⟨i0, hi, hz0, hz1, hz2⟩ := info_parts Try.infoU
  obtain rfl : y = .slice none 0 0 := ha1
  obtain ⟨r, cap, rfl, h2, h3, h4⟩ := hp _ _ (ha2 w (Off.refl _ _))
  by_cases hn : xs = []
  · subst hn
    have hr := run_append_zero (P := Try.prog) (w := w) 22 o.type 32 i0 Try.underlying22 hi none r 0 0 cap (Nat.le_refl _)
    exact ⟨_, w, exec_append ho e1 e2 hr, grown_refl w none, out_s hx ⟨_, _, _, rfl⟩ fun _ _ => .inl ⟨rfl, rfl⟩⟩
  · rcases h4 with rfl | ⟨b, off, rfl, h5, h6⟩
    · exact absurd rfl hn
    · have hpos : 0 < xs.length := List.length_pos_iff.2 hn
      have hb8 : xs.length * i0.bytes ≤ 281474976710656 := by
        have : xs.length * i0.bytes ≤ xs.length * 8 := Nat.mul_le_mul_left _ (by omega)
        omega
      have hr := run_append_nil (P := Try.prog) (w := w) 22 o.type 32 i0 (.int .u32 0) Try.underlying22 hi hz0 ⟨b, off, none⟩ xs.length cap (vals .u32 xs) (by rw [vals_len, hz1, Nat.mul_one]) (fun j v hj => by
        have hjl : j < xs.length := by have := (List.getElem?_eq_some_iff.1 hj).1; rwa [vals_len] at this
        rw [vals_get .u32 xs hjl] at hj
        rw [Addr.add_lit, ← hj]; exact h6 j hjl) hpos (by omega) hb8
      have hge := grownCap_ge w xs.length 0 32
      have hcm := grownCap_le_maxLen w xs.length 0 32 (by simp only [maxLen]; omega)
      refine ⟨_, _, exec_append ho e1 e2 hr, grown_drew_alloc w _, out_s hx ⟨_, _, _, rfl⟩ fun w1 hw => ZRow.new hX hge (by simpa [maxLen] using hcm) ?_ hw⟩
      refine congrArg (fun c => Obj.cells c 32 (0, 0)) (Array.ext' ?_)
      rw [Array.toList_append, zeroCells_list rfl, vals_app, vals_zeros]
/-- Zeros are appended: in their place, where they stand already, or in a new block. -/
theorem qAppendZ {xs : List Nat} {F : World → Value → Prop} (hp : ∀ w v, Φ p w v → ZRow w v xs) (hq : ∀ w v, Φ q w v → ∃ k : Nat, k < 4 ∧ v = .int .i64 (k : Int)) (hl : xs.length ≤ 1000000) (hx : Φ x = F) (hF : ∀ w v k, k < 4 → ZRow w v (xs ++ List.replicate k 0) → F w v) :
    SiteOk Φ Try.prog ⟨0, [.fact p, .fact q], [⟨.one .s, [(0, 0, x)]⟩], .quiet (mApp 22 3)⟩ := fun X w ac o ys hX hm ha => by
  obtain ⟨v, u, e0, ha1, ha2⟩ := args2 ha
  obtain ⟨a, b, ho, e1, e2⟩ := mApp_op hm e0
  obtain ⟨i0, hi, hz0, hz1, hz2⟩ := info_parts Try.infoU
  obtain ⟨k, hk4, rfl⟩ := hq _ _ (ha2 w (Off.refl _ _))
  have hw : IntKind.i64.wrap (k : Int) = k := by rw [IntKind.wrap_i64]; omega
  have hw0 : IntKind.i64.wrap 0 = 0 := by rw [IntKind.wrap_i64]; omega
  have hneg : ¬ ((k : Int) < 0) := by omega
  have h48i : ¬ (281474976710656 < (k : Int) * (i0.bytes : Int)) := by rw [hz2]; omega
  have hb8 : (xs.length + k) * i0.bytes ≤ 140737488355328 := by rw [hz2]; omega
  have hk8 : k * i0.bytes ≤ 281474976710656 := by rw [hz2]; omega
  have grow : ∀ (base : Option Addr) (cap : Nat), v = .slice base xs.length cap → cap < xs.length + k → 0 < k → (Builtin.firstCells i0.size xs.length (.slice base xs.length cap)).run Try.prog w.drew = .ok (vals .u32 xs).toArray w.drew →
      ∃ u w', (execOp ac.eval o).run Try.prog w = .ok (.value u) w' ∧ w.grownBy w' none ∧ outsOk Φ X w' [⟨.one .s, [(0, 0, x)]⟩] [u] := by
    intro base cap hv hg hk hold
    subst hv
    have hr := Lib.run_append_grow_zeros (P := Try.prog) w 22 3 o.type 32 i0 (.int .u32 0) .i64 .i64 Try.underlying22 Try.underlying3 hi hz0 base xs.length cap (vals .u32 xs) hold k hk (by omega) hg (by omega) hk8 (growslice_fits (by omega) hb8)
    have hge := grownCap_ge w (xs.length + k) cap 32
    have hcm := grownCap_le_maxLen w (xs.length + k) cap 32 (by simp only [maxLen]; omega)
    refine ⟨_, _, exec_append ho e1 e2 hr, grown_drew_alloc w _, out_s hx ⟨_, _, _, rfl⟩ fun w1 hw => hF _ _ k hk4 ?_⟩
    have hlen : xs.length + k = (xs ++ List.replicate k 0).length := by simp
    rw [hlen] at hw hge hcm ⊢
    refine ZRow.new hX hge (by simpa [maxLen] using hcm) ?_ hw
    refine congrArg (fun c => Obj.cells c 32 (0, 0)) (Array.ext' ?_)
    simp only [Array.toList_append, zeroCells_list (z := .int .u32 0) rfl, vals_app, vals_zeros]
  have h0 := ha1 w (Off.refl _ _)
  rcases hp _ _ h0 with ⟨rfl, rfl⟩ | ⟨g, cap, rfl, h1, h2, h3⟩
  · by_cases hk : k = 0
    · subst hk
      refine ⟨.slice none 0 0, w, exec_append ho e1 e2 ?_, grown_refl w none, out_s hx ⟨_, _, _, rfl⟩ fun w1 hw => hF _ _ 0 hk4 (.inl ⟨rfl, rfl⟩)⟩
      simp [Builtin.append_, run_underlying Try.underlying22, run_underlying Try.underlying3, sizeOf, typeInfo, hi, asInt, asIntOf, hw0]
    · exact grow none 0 rfl (by simp; omega) (by omega) (by simp [Builtin.firstCells, vals])
  · by_cases hroom : xs.length + k ≤ cap
    · refine ⟨.slice (some ⟨g, 0, none⟩) (xs.length + k) cap, w, exec_append ho e1 e2 ?_, grown_refl w none, out_s hx ⟨_, _, _, rfl⟩ fun w1 hw => hF _ _ k hk4 ((hp _ _ (ha1 w1 hw)).more k hroom)⟩
      by_cases hk : k = 0
      · subst hk
        simp [Builtin.append_, run_underlying Try.underlying22, run_underlying Try.underlying3, sizeOf, typeInfo, hi, asInt, asIntOf, hw0, h1, storeCells]
      · have hst := run_storeCells_at Try.prog g xs.length 32 (Builtin.zeroCells (Value.int .u32 0).cells k).toList 0 _ w h3 (by rw [zeroCells_list rfl, List.length_replicate]; simp [vals_len]; omega) (by rw [zeroCells_list rfl]; intro u hu; rw [(List.mem_replicate.1 hu).2]; rfl)
        simp only [Nat.add_zero] at hst
        have hsame : ((vals .u32 (xs ++ List.replicate (cap - xs.length) 0)).toArray.toList.take xs.length ++ (Builtin.zeroCells (Value.int .u32 0).cells k).toList ++ (vals .u32 (xs ++ List.replicate (cap - xs.length) 0)).toArray.toList.drop (xs.length + (Builtin.zeroCells (Value.int .u32 0).cells k).toList.length)).toArray = (vals .u32 (xs ++ List.replicate (cap - xs.length) 0)).toArray := by
          apply Array.ext'
          have hd : (vals .u32 xs ++ List.replicate (cap - xs.length) (Value.int .u32 0)).drop (xs.length + k) = List.replicate (cap - xs.length - k) (.int .u32 0) := by
            rw [List.drop_append, List.drop_eq_nil_of_le (by rw [vals_len]; omega), vals_len, List.nil_append, List.drop_replicate, show xs.length + k - xs.length = k by omega]
          rw [zeroCells_list rfl, vals_app, vals_zeros, List.length_replicate, List.take_left' (vals_len .u32 xs), hd, List.append_assoc, List.replicate_append_replicate, show k + (cap - xs.length - k) = cap - xs.length by omega]
        rw [hsame, setRow_self w g _ _ _ h3] at hst
        simp only [Builtin.append_]
        simp [run_underlying Try.underlying22, run_underlying Try.underlying3, sizeOf, typeInfo, zeroValue, hi, hz0, asInt, asIntOf, hw, hroom, hneg, h48i, hz1, hk, Addr.add_lit]
        rw [hst]
        rfl
    · refine grow (some ⟨g, 0, none⟩) cap rfl (by omega) (by omega) ?_
      have hf := run_firstCells_some (P := Try.prog) w.drew i0.size xs.length ⟨g, 0, none⟩ xs.length cap (vals .u32 xs) (by rw [vals_len, hz1]; omega) (fun j u hj => by
        have hjl : j < xs.length := by have := (List.getElem?_eq_some_iff.1 hj).1; rwa [vals_len] at this
        rw [vals_get .u32 xs hjl] at hj
        rw [Addr.add_lit, Nat.zero_add, ← hj]
        show w.cell? ⟨g, j, none⟩ = _
        simp only [World.cell?, h3, Option.isSome_none, Bool.false_eq_true, if_false]
        exact vals_at _ _ hjl)
      exact hf
end
end Go.Proofs.Ytckhcijknfkghaa.Sym
