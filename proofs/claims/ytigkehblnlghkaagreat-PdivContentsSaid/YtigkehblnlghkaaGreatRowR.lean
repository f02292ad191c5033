/- Rows of structs in memory of the call's own, grown by append: as calls of the symbolic walk. -/
import Derived.Test.YtigkehblnlghkaaGreatSymS
import Derived.Maps.AppendAt
namespace Go.Proofs.YtigkehblnlghkaaGreat
open Go.RowKit
/-- No number. -/
def NoNum (x : Value) : Prop := ∀ k n, x ≠ .int k n
/-- v is a row of n elements of sz cells, xs one behind the other, at the head of a block of its own in which no number lies. -/
def OwnR (sz : Nat) (e : TypeId) (w : World) (v : Value) (n : Nat) (xs : List Value) : Prop :=
  w.ownsRow 0 e sz v n xs ∧ ∀ g cur e' p, v.ownBlock = some g → w.heap[g]? = some (.cells cur e' p) → ∀ x, x ∈ cur.toList → NoNum x
theorem OwnR.nil (sz : Nat) (e : TypeId) (w : World) : OwnR sz e w (.slice none 0 0) 0 [] := ⟨⟨by simp, .inl ⟨rfl, rfl⟩⟩, fun _ _ _ _ h => by simp [Value.ownBlock] at h⟩
section
variable {sz n : Nat} {e : TypeId} {w w' : World} {v : Value} {xs : List Value}
theorem OwnR.lt (h : OwnR sz e w v n xs) (g : Nat) (hg : v.ownBlock = some g) : g < w.heap.size := by
  rcases h.1.2 with ⟨rfl, -⟩ | ⟨g', cap, cur, rfl, hb, hh, -⟩
  · simp [Value.ownBlock] at hg
  · simp only [Value.ownBlock, Option.some.injEq] at hg
    subst hg
    exact (Array.getElem?_eq_some_iff.1 hh).1
theorem OwnR.keep (h : OwnR sz e w v n xs) (hb : ∀ g, v.ownBlock = some g → w'.heap[g]? = w.heap[g]?) : OwnR sz e w' v n xs := by
  refine ⟨⟨h.1.1, ?_⟩, fun g' cur e p hg' hh => h.2 g' cur e p hg' (by rw [← hb g' hg']; exact hh)⟩
  rcases h.1.2 with h2 | ⟨g', cap, cur, rfl, hB, hh, h3⟩
  · exact .inl h2
  · exact .inr ⟨g', cap, cur, rfl, hB, by rw [hb g' rfl]; exact hh, h3⟩
/-- What was written into its block leaves every number as it was. -/
theorem OwnR.kp (h : OwnR sz e w v n xs) (g : w.grownBy w' v.ownBlock) : Kp w w' := by
  refine ⟨g.size, fun a k m hc => ?_⟩
  have hl := World.block_lt_of_cell? _ _ hc
  by_cases hv : v.ownBlock = some a.block
  · rcases h.1.2 with ⟨rfl, -⟩ | ⟨g', cap, cur, rfl, hB, hh, -⟩
    · simp [Value.ownBlock] at hv
    · simp only [Value.ownBlock, Option.some.injEq] at hv
      obtain ⟨b, off, spot⟩ := a
      have hs : spot = none := World.cell?_spot hc
      subst hs
      simp only at hv
      subst hv
      simp [World.cell?, hh] at hc
      have := h.2 g' cur _ _ rfl hh (.int k m) (by
        rw [← Array.getElem?_toList] at hc
        exact List.mem_of_getElem? hc) k m
      exact absurd rfl this
  · rw [World.cell?_of_block (g.block a.block hl (fun e => hv e.symm))]
    exact hc
theorem zeroCells_nn {z : Array Value} (hz : ∀ x, x ∈ z.toList → NoNum x) (h0 : 0 < z.size) (n : Nat) : ∀ x, x ∈ (Builtin.zeroCells z n).toList → NoNum x := by
  intro x hx
  simp only [Builtin.zeroCells, Array.toList_map, List.mem_map] at hx
  obtain ⟨i, -, rfl⟩ := hx
  have hlt := Nat.mod_lt i h0
  rw [getElem!_pos z _ hlt]
  exact hz _ (by simp)
set_option maxRecDepth 100000 in
theorem run_append_R (t ty : TypeId) {i0 : TypeInfo} {z : Value} {bytes : Nat} (hU : Tryz.prog.underlying t = some (.slice e)) (hi : Tryz.prog.info? e = some i0) (hz0 : i0.zero = some z) (hz1 : i0.size = sz) (hz2 : i0.bytes = bytes) (hzs : z.cells.size = sz) (hsz : 0 < sz) (hbb : bytes ≤ 1000) (hzn : ∀ x, x ∈ z.cells.toList → NoNum x)
    (h : OwnR sz e w v n xs) (a : Addr) (c : Nat) (news : List Value) (hl : news.length = sz) (hnews : ∀ (j : Nat) u, news[j]? = some u → w.cell? (a.add j) = some u) (hone : ∀ u, u ∈ news → u.oneCell' = true) (hnn : ∀ u, u ∈ news → NoNum u) (hn : n ≤ 1000000) :
    ∃ v' w', (Builtin.append_ #[t, t] ty #[v, .slice (some a) 1 c]).run Tryz.prog w = .ok v' w' ∧ OwnR sz e w' v' (n + 1) (xs ++ news) ∧ w.grownBy w' v.ownBlock ∧ (v'.ownBlock = v.ownBlock ∨ v'.ownBlock = some w.heap.size) := by
  have hl1 : news.length = 1 * sz := by rw [hl, Nat.one_mul]
  have hby : (n + 1) * bytes ≤ 140737488355328 := Nat.le_trans (Nat.mul_le_mul (by omega : n + 1 ≤ 1000001) hbb) (by decide)
  obtain ⟨v', w', hr, ho, hg, -, hb⟩ := run_append_own_at (P := Tryz.prog) (w := w) 0 t ty e i0 z sz bytes hU hi hz0 hz1 hz2 hzs hsz v n xs h.1 a 1 c news hl1 hnews hone (by simp only [maxLen]; omega) hby (by omega)
  refine ⟨v', w', hr, ⟨ho, ?_⟩, hg, hb⟩
  have hL : ∀ x, x ∈ xs → NoNum x := fun x hx => by
    rcases h.1.2 with ⟨-, h2⟩ | ⟨g, cap, cur, hv, -, hh, -, -, -, h6⟩
    · have := h.1.1
      rw [h2, Nat.zero_mul] at this
      rw [List.eq_nil_of_length_eq_zero this] at hx; cases hx
    · rw [← h6] at hx
      exact h.2 g cur _ _ (by rw [hv]; rfl) hh x (List.mem_of_mem_take hx)
  subst hz1
  rcases h.1.2 with ⟨rfl, h2⟩ | ⟨g, cap, cur, rfl, hb', hh, h3, h4, h5, h6⟩
  · subst h2
    have hr2 := run_append_nil (P := Tryz.prog) (w := w) t ty e i0 z hU hi hz0 a 1 c news hl1 hnews (by omega) (by omega) (by rw [hz2]; omega)
    rw [hr] at hr2
    injection hr2 with e1 e2
    subst e1 e2
    intro g cur e' q hgg hcur x hx
    simp only [Value.ownBlock, Option.some.injEq] at hgg
    subst hgg
    rw [show w.heap.size = w.drew.heap.size from rfl, heap_alloc_new] at hcur
    cases hcur
    simp only [Array.toList_append, List.mem_append] at hx
    rcases hx with hx | hx
    · exact hnn x (by simpa using hx)
    · exact zeroCells_nn hzn (by omega) _ x hx
  · by_cases hroom : n + 1 ≤ cap
    · have hfit : n * i0.size + news.length ≤ cur.size := by
        rw [h5, hl, ← Nat.succ_mul]; exact Nat.mul_le_mul_right _ hroom
      have hr2 := run_append_room (P := Tryz.prog) (w := w) t ty e i0 hU hi g n cap cur hh a 1 c news hl1 hnews hone hroom hfit
      rw [hr] at hr2
      injection hr2 with e1 e2
      subst e1 e2
      intro g' cur' e' q hgg hcur x hx
      simp only [Value.ownBlock, Option.some.injEq] at hgg
      subst hgg
      rw [setRow_heap w g cur _ _ _ hh] at hcur
      cases hcur
      simp only [List.mem_append] at hx
      rcases hx with (hx | hx) | hx
      · exact h.2 g cur _ _ rfl hh x (List.mem_of_mem_take hx)
      · exact hnn x hx
      · exact h.2 g cur _ _ rfl hh x (List.mem_of_mem_drop hx)
    · have holds : ∀ (j : Nat) u, xs[j]? = some u → w.cell? (Addr.add ⟨g, 0, none⟩ j) = some u := h.1.cells (g := g) rfl
      have hr2 := run_append_grow (P := Tryz.prog) (w := w) t ty e i0 z hU hi hz0 ⟨g, 0, none⟩ n cap xs h.1.1 holds a 1 c news hl1 hnews (by omega) (by omega) (growslice_fits (by omega) (by rw [hz2]; exact hby))
      rw [hr] at hr2
      injection hr2 with e1 e2
      subst e1 e2
      intro g' cur' e' q hgg hcur x hx
      simp only [Value.ownBlock, Option.some.injEq] at hgg
      subst hgg
      rw [show w.heap.size = w.drew.heap.size from rfl, heap_alloc_new] at hcur
      cases hcur
      simp only [Array.toList_append, List.mem_append] at hx
      rcases hx with (hx | hx) | hx
      · exact hL x (by simpa using hx)
      · exact hnn x (by simpa using hx)
      · exact zeroCells_nn hzn (by omega) _ x hx
end
end Go.Proofs.YtigkehblnlghkaaGreat
namespace Go.Proofs.YtigkehblnlghkaaGreat.Sym
open Go.RowKit
/-- A row of the call's own of n elements that meet F. -/
def ArrO (sz : Nat) (e : TypeId) (F : Nat → World → Value → Prop) (n : Nat) (w : World) (v : Value) : Prop :=
  ∃ rows : List (List Value), rows.length = n ∧ (∀ r, r ∈ rows → r.length = sz) ∧ OwnR sz e w v n rows.flatten ∧ ∀ i r, rows[i]? = some r → F i w (.agg r.toArray)
theorem flatten_at {sz : Nat} : ∀ {rows : List (List Value)}, (∀ r, r ∈ rows → r.length = sz) → ∀ {i j : Nat} {r : List Value} {u : Value}, rows[i]? = some r → r[j]? = some u → rows.flatten[i * sz + j]? = some u
  | [], _, i, j, r, u, h, _ => by simp at h
  | r0 :: rows, hl, 0, j, r, u, h, hj => by
    simp at h
    subst h
    have hlt := (List.getElem?_eq_some_iff.1 hj).1
    rw [List.flatten_cons, Nat.zero_mul, Nat.zero_add, List.getElem?_append_left hlt]
    exact hj
  | r0 :: rows, hl, i + 1, j, r, u, h, hj => by
    have h0 := hl r0 (List.mem_cons_self ..)
    rw [List.flatten_cons, List.getElem?_append_right (by rw [h0, Nat.succ_mul]; omega), h0, show (i + 1) * sz + j - sz = i * sz + j by rw [Nat.succ_mul]; omega]
    exact flatten_at (fun r hr => hl r (List.mem_cons_of_mem _ hr)) (by simpa using h) hj
section
variable {sz n : Nat} {e : TypeId} {F : Nat → World → Value → Prop} {w w' : World} {v : Value}
theorem ArrO.nil (sz : Nat) (e : TypeId) (F : Nat → World → Value → Prop) (w : World) : ArrO sz e F 0 w (.slice none 0 0) := ⟨[], rfl, fun _ h => by (cases h), OwnR.nil sz e w, fun i r h => by simp at h⟩
theorem ArrO.arr (h : ArrO sz e F n w v) : Arr sz F n w v := by
  obtain ⟨rows, hl, hs, ho, hF⟩ := h
  rcases ho.1.2 with ⟨rfl, h2⟩ | ⟨g, cap, cur, rfl, hb, hh, h3, h4, h5, h6⟩
  · exact ⟨none, 0, by rw [h2], fun i hi => by omega⟩
  · refine ⟨_, cap, rfl, fun i hi => ?_⟩
    obtain ⟨r, hr⟩ : ∃ r, rows[i]? = some r := ⟨rows[i], List.getElem?_eq_getElem (by omega)⟩
    refine ⟨g, 0, rfl, r, hs r (List.mem_of_getElem? hr), fun j u hj => ?_, hF i r hr⟩
    have hx := flatten_at hs hr hj
    rw [← h6, List.getElem?_take] at hx
    split at hx
    · simp [World.cell?, hh]
      rw [← Array.getElem?_toList]
      exact hx
    · cases hx
theorem blk_own (v : Value) : blk v = v.ownBlock := by
  unfold blk Value.ownBlock
  split <;> simp_all
end
def mApp (T U : TypeId) : Op → Option (List Operand)
  | .call ⟨.builtin .append, args, ts⟩ => if ts = #[T, U] then some args.toList else none
  | _ => none
theorem mApp_op {T U : TypeId} {o : Op} {y u : Value} {f : Operand → Value} {xs : List Operand} (h : mApp T U o = some xs) (hl : xs.map f = [y, u]) : ∃ a b, o = .call ⟨.builtin .append, #[a, b], #[T, U]⟩ ∧ xs = [a, b] ∧ f a = y ∧ f b = u := by
  unfold mApp at h
  split at h
  case h_2 => cases h
  rename_i args ts
  split at h
  case isFalse => cases h
  rename_i hts
  subst hts
  simp only [Option.some.injEq] at h
  subst h
  match hl' : args.toList, hl with
  | [a, b], hl =>
    have hargs : args = #[a, b] := by apply Array.ext'; simpa using hl'
    subst hargs
    simp only [List.map_cons, List.map_nil, List.cons.injEq, and_true] at hl
    exact ⟨a, b, rfl, rfl, hl.1, hl.2⟩
theorem exec_append {P : Program} {T U : TypeId} {o : Oper} {a b : Operand} {ac : Act} {w w' : World} {y u v : Value} (ho : o.op = .call ⟨.builtin .append, #[a, b], #[T, U]⟩) (h1 : ac.eval a = y) (h2 : ac.eval b = u) (hr : (Builtin.append_ #[T, U] o.type #[y, u]).run P w = .ok v w') : (execOp ac.eval o).run P w = .ok (.value v) w' := by
  unfold execOp
  simp [ho, resolve, invoke, builtin, h1, h2, hr]
/-- An element is put behind a row of the call's own. -/
theorem qAppR {Φ : Nat → World → Value → Prop} {p q x j sz n : Nat} {t e : TypeId} {F : Nat → World → Value → Prop} {i0 : TypeInfo} {z : Value} {bytes : Nat} (hU : Tryz.prog.underlying t = some (.slice e)) (hi : Tryz.prog.info? e = some i0) (hz0 : i0.zero = some z) (hz1 : i0.size = sz) (hz2 : i0.bytes = bytes) (hzs : z.cells.size = sz) (hsz : 0 < sz) (hbb : bytes ≤ 1000) (hzn : ∀ x, x ∈ z.cells.toList → NoNum x)
    (hF : ∀ i w w1 v, Kp w w1 → F i w v → F i w1 v) (hp : ∀ w v, Φ p w v → ArrO sz e F n w v) (hq : ∀ w v, Φ q w v → F n w v) (hc : ∀ w (l : List Value), Φ q w (.agg l.toArray) → ∀ u, u ∈ l → u.oneCell' = true ∧ NoNum u) (hn : n ≤ 1000000) (hx : Φ x = fun w v => ArrO sz e F (n + 1) w v) :
    SiteOk Φ Tryz.prog ⟨0, [.fact p, .row sz [q]], [⟨.one .s, [(0, 0, x)]⟩], .loose [] j 0 (mApp t t)⟩ := fun X L w ac o ys hX hL hLX hm ha hb => by
  obtain ⟨y, u, hys⟩ : ∃ y u, ys.map ac.eval = [y, u] := by
    match ys.map ac.eval, ha with
    | [y, u], _ => exact ⟨y, u, rfl⟩
  rw [show List.map ac.eval ys = [y, u] from hys] at ha
  · obtain ⟨a, b, ho, rfl, ea, eb⟩ := mApp_op hm hys
    obtain ⟨h1, ⟨g, hu, ⟨l, hl, hcells, hl3⟩, -⟩, -⟩ := ha
    obtain ⟨rows, r1, r2, r3, r4⟩ := hp _ _ (h1 w (Off.refl _ _))
    have hql := hl3 w (Off.refl _ _)
    have hu' : u = .slice (some ⟨g, 0, none⟩) 1 1 := hu
    obtain ⟨v', w', hr, ho', hg, hbl⟩ := run_append_R t o.type hU hi hz0 hz1 hz2 hzs hsz hbb hzn r3 ⟨g, 0, none⟩ 1 l hl (fun k v hk => by rw [Addr.add_lit]; exact hcells k v hk) (fun v hv => (hc w l hql v hv).1) (fun v hv => (hc w l hql v hv).2) hn
    have hkp := r3.kp hg
    have hLy : ∀ m, y.ownBlock = some m → L m := fun m hm' => hb a m rfl (by rw [ea, blk_own]; exact hm')
    have hv' : ∀ m, v'.ownBlock = some m → L m ∨ m = w.heap.size := fun m hm' => by
      rcases hbl with h | h
      · exact .inl (hLy m (by rw [← h]; exact hm'))
      · rw [hm'] at h; exact .inr (Option.some.inj h)
    have hrun := exec_append (o := o) (P := Tryz.prog) ho ea (by rw [eb, hu']) hr
    refine ⟨v', w', y.ownBlock, hrun, hg, hLy, hkp, fun m k v hm' h4 h5 => ?_, fun m hm' => ?_, ?_⟩
    · have hbk := hg.block m (World.block_lt_of_cell? _ _ h4) (fun e' => hm' m e'.symm rfl)
      refine ⟨by rw [World.cell?_of_block hbk]; exact h4, ?_⟩
      simp only [World.frozen?, hbk] at h5 ⊢
      exact h5
    · rw [blk_own] at hm'
      refine ⟨ho'.lt m hm', ?_⟩
      rcases hv' m hm' with h | h
      · exact .inl h
      · exact .inr (by omega)
    · obtain ⟨p1, n1, c1, rfl⟩ : ∃ p n c, v' = .slice p n c := by
        rcases ho'.1.2 with ⟨h, -⟩ | ⟨_, _, _, h, -⟩ <;> exact ⟨_, _, _, h⟩
      refine ⟨⟨⟨⟨_, _, _, rfl⟩, fun _ h => by cases h⟩, fun s hs w1 hw => ?_⟩, trivial⟩
      simp only [List.mem_singleton] at hs
      subst hs
      show Φ x w1 _
      rw [hx]
      refine ⟨rows ++ [l], by simp [r1], fun r hr => ?_, ?_, fun i r hr => ?_⟩
      · rcases List.mem_append.1 hr with hr | hr
        · exact r2 r hr
        · rw [List.mem_singleton.1 hr, hl]
      · rw [List.flatten_append, List.flatten_singleton]
        refine ho'.keep fun m hm' => hw.2 m (ho'.lt m hm') fun hx' => ?_
        rcases hv' m hm' with h | h
        · exact hLX m h hx'
        · have := hX m hx'; omega
      · rw [List.getElem?_append] at hr
        split at hr
        · exact hF _ _ _ _ (hkp.trans hw.1) (r4 i r hr)
        · rename_i hge
          have hi' : i = n := by
            have := (List.getElem?_eq_some_iff.1 hr).1
            simp at this
            omega
          subst hi'
          rw [r1, Nat.sub_self] at hr
          simp at hr
          subst hr
          exact hF _ _ _ _ (hkp.trans hw.1) (hq _ _ hql)
end Go.Proofs.YtigkehblnlghkaaGreat.Sym
