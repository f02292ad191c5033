/- Strings in the symbolic walk; package digits' functions as calls. -/
import Derived.Test.YtjakllpnbeagjaaGreatDoorSymS
import Derived.Test.YtjakllpnbeagjaaGreatDoorDigB
namespace Go.Proofs.YtjakllpnbeagjaaGreatDoor.Sym
open Go.RowKit

def mIndex (T : TypeId) : Op → Option (List Operand)
  | .index t x i => if t = T then some [x, i] else none
  | _ => none
def mTo (T : TypeId) : Op → Option (List Operand)
  | .slice t x none (some h) none => if t = T then some [x, h] else none
  | _ => none
def mFrom (T : TypeId) : Op → Option (List Operand)
  | .slice t x (some l) none none => if t = T then some [x, l] else none
  | _ => none
section
variable {P : Program} {Φ : Nat → World → Value → Prop} {p q x : Nat} {s : ByteArray}
theorem qLenS {T : TypeId} (hT : P.underlying T = some .string) (hp : ∀ w v, Φ p w v → v = .string s) (hx : Φ x = fun _ v => v = .int .i64 (s.size : Int)) : SiteOk Φ P ⟨0, [.fact p], [⟨.one .i, [(0, 0, x)]⟩], .quiet (mLen T)⟩ := fun X w ac o xs _ hm ha => by
  unfold mLen at hm
  split at hm
  case h_2 => cases hm
  rename_i args ts ho
  split at hm
  case isFalse => cases hm
  rename_i hts
  subst hts
  simp only [Option.some.injEq] at hm
  subst hm
  match hl : args.toList, ha with
  | [y], ha =>
    have hv := hp _ _ (ha.1 w (Off.refl _ _))
    have hargs : args = #[y] := by apply Array.ext'; simpa using hl
    subst hargs
    refine ⟨.int .i64 s.size, w, ?_, grown_refl w none, ⟨⟨⟨⟨_, rfl⟩, fun _ h => by cases h⟩, fun r hr w1 hw => ?_⟩, trivial⟩⟩
    · unfold execOp
      simp [ho, resolve, invoke, builtin, Builtin.len_, run_underlying hT, hv, goInt]
    · simp only [List.mem_singleton] at hr; subst hr
      show Φ x w1 _; rw [hx]; rfl
theorem mIndex_op {T : TypeId} {o : Op} {xs : List Operand} (h : mIndex T o = some xs) : ∃ y z, o = .index T y z ∧ xs = [y, z] := by
  unfold mIndex at h
  split at h
  case h_2 => cases h
  split at h
  case isFalse => cases h
  rename_i ht
  simp only [Option.some.injEq] at h
  exact ⟨_, _, by rw [ht], h.symm⟩
theorem mTo_op {T : TypeId} {o : Op} {xs : List Operand} (h : mTo T o = some xs) : ∃ y z, o = .slice T y none (some z) none ∧ xs = [y, z] := by
  unfold mTo at h
  split at h
  case h_2 => cases h
  split at h
  case isFalse => cases h
  rename_i ht
  simp only [Option.some.injEq] at h
  exact ⟨_, _, by rw [ht], h.symm⟩
theorem mFrom_op {T : TypeId} {o : Op} {xs : List Operand} (h : mFrom T o = some xs) : ∃ y z, o = .slice T y (some z) none none ∧ xs = [y, z] := by
  unfold mFrom at h
  split at h
  case h_2 => cases h
  split at h
  case isFalse => cases h
  rename_i ht
  simp only [Option.some.injEq] at h
  exact ⟨_, _, by rw [ht], h.symm⟩
theorem index_run {T : TypeId} {i : Nat} {o : Oper} {y z : Operand} {ac : Act} {w : World} (hT : P.underlying T = some .string) (ho : o.op = .index T y z) (h1 : ac.eval y = .string s) (h2 : ac.eval z = .int .i64 (i : Int)) (hi : i < s.size) : (execOp ac.eval o).run P w = .ok (.value (.int .u8 ((s.data.toList.getD i 0).toNat : Int))) w := by
  unfold execOp
  have hi2 : 0 ≤ (i : Int) ∧ (i : Int) < s.size := by omega
  have e : s.data.toList.getD i 0 = s[i] := by
    rw [List.getD_eq_getElem?_getD, Array.getElem?_toList, Array.getElem?_eq_getElem (by simpa using hi)]; rfl
  have hr := run_index_string (P := P) w T s .i64 (i : Int) hT
  rw [dif_pos hi2] at hr
  rw [e]
  simp only [ho, h1, h2]
  simp [hr]
theorem qIndexS {T : TypeId} {i : Nat} (hT : P.underlying T = some .string) (hp : ∀ w v, Φ p w v → v = .string s) (hq : ∀ w v, Φ q w v → v = .int .i64 (i : Int)) (hi : i < s.size) (hx : Φ x = fun _ v => v = .int .u8 ((s.data.toList.getD i 0).toNat : Int)) : SiteOk Φ P ⟨0, [.fact p, .fact q], [⟨.one .nk, [(0, 0, x)]⟩], .quiet (mIndex T)⟩ := fun X w ac o xs _ hm ha => by
  obtain ⟨y, z, ho, rfl⟩ := mIndex_op hm
  refine ⟨_, w, index_run hT ho (hp _ _ (ha.1 w (Off.refl _ _))) (hq _ _ (ha.2.1 w (Off.refl _ _))) hi, grown_refl w none, ⟨⟨⟨⟨_, _, rfl⟩, fun _ h => by cases h⟩, fun r hr w1 hw => ?_⟩, trivial⟩⟩
  simp only [List.mem_singleton] at hr; subst hr
  show Φ x w1 _; rw [hx]; rfl
theorem qIndexSC {T : TypeId} (i : Nat) {ii : Int} (hii : (i : Int) = ii) (hT : P.underlying T = some .string) (hp : ∀ w v, Φ p w v → v = .string s) (hi : i < s.size) (hx : Φ x = fun _ v => v = .int .u8 ((s.data.toList.getD i 0).toNat : Int)) : SiteOk Φ P ⟨0, [.fact p, .lit (.ci .i64 ii)], [⟨.one .nk, [(0, 0, x)]⟩], .quiet (mIndex T)⟩ := fun X w ac o xs _ hm ha => by
  subst hii
  obtain ⟨y, z, ho, rfl⟩ := mIndex_op hm
  refine ⟨_, w, index_run hT ho (hp _ _ (ha.1 w (Off.refl _ _))) ha.2.1 hi, grown_refl w none, ⟨⟨⟨⟨_, _, rfl⟩, fun _ h => by cases h⟩, fun r hr w1 hw => ?_⟩, trivial⟩⟩
  simp only [List.mem_singleton] at hr; subst hr
  show Φ x w1 _; rw [hx]; rfl
theorem qToS {T : TypeId} {i : Nat} (hT : P.underlying T = some .string) (hp : ∀ w v, Φ p w v → v = .string s) (hq : ∀ w v, Φ q w v → v = .int .i64 (i : Int)) {t : ByteArray} (hi : i ≤ s.size) (ht : s.extract 0 i = t) (hx : Φ x = fun _ v => v = .string t) : SiteOk Φ P ⟨0, [.fact p, .fact q], [⟨.one .t, [(0, 0, x)]⟩], .quiet (mTo T)⟩ := fun X w ac o xs _ hm ha => by
  subst ht
  obtain ⟨y, z, ho, rfl⟩ := mTo_op hm
  have h1 : ac.eval y = .string s := hp _ _ (ha.1 w (Off.refl _ _))
  have h2 : ac.eval z = .int .i64 (i : Int) := hq _ _ (ha.2.1 w (Off.refl _ _))
  refine ⟨.string (s.extract 0 i), w, ?_, grown_refl w none, ⟨⟨⟨⟨_, rfl⟩, fun _ h => by cases h⟩, fun r hr w1 hw => ?_⟩, trivial⟩⟩
  · have hr := run_slice_string_to_if (P := P) w T s .i64 (i : Int) hT
    rw [if_pos (by omega)] at hr
    unfold execOp
    simp only [ho, Option.map_none, Option.map_some, h1, h2, Sem.run_bind, run_sliceAt_string w T _ _ _ _ hT]
    simp [hr]
  · simp only [List.mem_singleton] at hr; subst hr
    show Φ x w1 _; rw [hx]; rfl
theorem from_run {T : TypeId} {i : Nat} {o : Oper} {y z : Operand} {ac : Act} {w : World} (hT : P.underlying T = some .string) (ho : o.op = .slice T y (some z) none none) (h1 : ac.eval y = .string s) (h2 : ac.eval z = .int .i64 (i : Int)) (hi : i ≤ s.size) : (execOp ac.eval o).run P w = .ok (.value (.string (s.extract i s.size))) w := by
  have hr := run_slice_string_from_if (P := P) w T s .i64 (i : Int) hT
  rw [if_pos (by omega)] at hr
  unfold execOp
  simp only [ho, Option.map_none, Option.map_some, h1, h2, Sem.run_bind, run_sliceAt_string w T _ _ _ _ hT]
  simp [hr]
theorem qFromS {T : TypeId} {i : Nat} (hT : P.underlying T = some .string) (hp : ∀ w v, Φ p w v → v = .string s) (hq : ∀ w v, Φ q w v → v = .int .i64 (i : Int)) {t : ByteArray} (hi : i ≤ s.size) (ht : s.extract i s.size = t) (hx : Φ x = fun _ v => v = .string t) : SiteOk Φ P ⟨0, [.fact p, .fact q], [⟨.one .t, [(0, 0, x)]⟩], .quiet (mFrom T)⟩ := fun X w ac o xs _ hm ha => by
  subst ht
  obtain ⟨y, z, ho, rfl⟩ := mFrom_op hm
  refine ⟨_, w, from_run hT ho (hp _ _ (ha.1 w (Off.refl _ _))) (hq _ _ (ha.2.1 w (Off.refl _ _))) hi, grown_refl w none, ⟨⟨⟨⟨_, rfl⟩, fun _ h => by cases h⟩, fun r hr w1 hw => ?_⟩, trivial⟩⟩
  simp only [List.mem_singleton] at hr; subst hr
  show Φ x w1 _; rw [hx]; rfl
theorem qFromSC {T : TypeId} (i : Nat) {ii : Int} (hii : (i : Int) = ii) (hT : P.underlying T = some .string) (hp : ∀ w v, Φ p w v → v = .string s) {t : ByteArray} (hi : i ≤ s.size) (ht : s.extract i s.size = t) (hx : Φ x = fun _ v => v = .string t) : SiteOk Φ P ⟨0, [.fact p, .lit (.ci .i64 ii)], [⟨.one .t, [(0, 0, x)]⟩], .quiet (mFrom T)⟩ := fun X w ac o xs _ hm ha => by
  subst ht
  subst hii
  obtain ⟨y, z, ho, rfl⟩ := mFrom_op hm
  refine ⟨_, w, from_run hT ho (hp _ _ (ha.1 w (Off.refl _ _))) ha.2.1 hi, grown_refl w none, ⟨⟨⟨⟨_, rfl⟩, fun _ h => by cases h⟩, fun r hr w1 hw => ?_⟩, trivial⟩⟩
  simp only [List.mem_singleton] at hr; subst hr
  show Φ x w1 _; rw [hx]; rfl
theorem bin_run' {op : BinOp} {o : Oper} {t yt : TypeId} {y z : Operand} {ac : Act} {w : World} {u v r : Value} (ho : o.op = .binOp op t y z yt) (h1 : ac.eval y = u) (h2 : ac.eval z = v) (hu : ∀ l, u ≠ .agg l) (hn : u ≠ .nilIface) (h : (binOp op t u v).run P w = .ok r w) : (execOp ac.eval o).run P w = .ok (.value r) w := by
  unfold execOp
  simp only [ho, h1, h2, Sem.run_bind]
  have hg : (eqGuard op t y z u v).run P w = .ok () w := by
    unfold eqGuard
    cases op <;> simp <;> cases u <;> simp_all
  simp [hg, h]
/-- A test of numbers of any kind against a closed one. -/
theorem qTestN {op : BinOp} {k : IntKind} {a b : Int} {r : Bool} (hp : ∀ w v, Φ p w v → v = .int k a) (h : ∀ t w, (binOp op t (.int k a) (.int k b)).run P w = .ok (.bool r) w) : SiteOk Φ P ⟨0, [.fact p, .lit (.ci k b)], [⟨.one (.lit (.cb r)), []⟩], .quiet (mBin op)⟩ := fun X w ac o xs _ hm ha => by
  obtain ⟨t, y, z, yt, ho, rfl⟩ := mBin_op hm
  exact ⟨.bool r, w, bin_run' ho (hp _ _ (ha.1 w (Off.refl _ _))) ha.2.1 (by simp) (by simp) (h t w), grown_refl w none, ⟨⟨⟨rfl, fun _ h => by cases h⟩, fun r hr => by cases hr⟩, trivial⟩⟩
def tstB (op : BinOp) (a b : Int) : Bool := match op with
  | .lss => decide (a < b)
  | .gtr => decide (a > b)
  | .leq => decide (a ≤ b)
  | .geq => decide (a ≥ b)
  | .eql => a == b
  | .neq => a != b
  | _ => false
theorem tst_run {op : BinOp} {k : IntKind} {a b : Int} {r : Bool} (h : tstB op a b = r) (ho : op = .lss ∨ op = .gtr ∨ op = .leq ∨ op = .geq ∨ op = .eql ∨ op = .neq) (t : TypeId) (w : World) : (binOp op t (.int k a) (.int k b)).run P w = .ok (.bool r) w := by
  subst h
  rcases ho with rfl | rfl | rfl | rfl | rfl | rfl <;> simp [binOp, Op.intCmp, tstB]
/-- Strings that are one. -/
theorem qEqT {s1 s2 : ByteArray} {r : Bool} (hp : ∀ w v, Φ p w v → v = .string s1) (hq : ∀ w v, Φ q w v → v = .string s2) (h : (s1.toList == s2.toList) = r) : SiteOk Φ P ⟨0, [.fact p, .fact q], [⟨.one (.lit (.cb r)), []⟩], .quiet (mBin .eql)⟩ := fun X w ac o xs _ hm ha => by
  obtain ⟨t, y, z, yt, ho, rfl⟩ := mBin_op hm
  refine ⟨.bool r, w, bin_run' ho (hp _ _ (ha.1 w (Off.refl _ _))) (hq _ _ (ha.2.1 w (Off.refl _ _))) (by simp) (by simp) ?_, grown_refl w none, ⟨⟨⟨rfl, fun _ h => by cases h⟩, fun r hr => by cases hr⟩, trivial⟩⟩
  rw [binOp_string_eql, h]; rfl
theorem qCat {s1 s2 s3 : ByteArray} (hp : ∀ w v, Φ p w v → v = .string s1) (hq : ∀ w v, Φ q w v → v = .string s2) (h : s1 ++ s2 = s3) (hsz : s1.size + s2.size ≤ 1000000) (hx : Φ x = fun _ v => v = .string s3) : SiteOk Φ P ⟨0, [.fact p, .fact q], [⟨.one .t, [(0, 0, x)]⟩], .quiet (mBin .add)⟩ := fun X w ac o xs _ hm ha => by
  obtain ⟨t, y, z, yt, ho, rfl⟩ := mBin_op hm
  subst h
  refine ⟨.string (s1 ++ s2), w, bin_run' ho (hp _ _ (ha.1 w (Off.refl _ _))) (hq _ _ (ha.2.1 w (Off.refl _ _))) (by simp) (by simp) ?_, grown_refl w none, ⟨⟨⟨⟨_, rfl⟩, fun _ h => by cases h⟩, fun r hr w1 hw => ?_⟩, trivial⟩⟩
  · rw [binOp_string_add]; unfold Op.stringOp; simp only []; rw [if_neg (by rw [show IntKind.i64.max = 9223372036854775807 from rfl]; omega)]; rfl
  · simp only [List.mem_singleton] at hr; subst hr
    show Φ x w1 _; rw [hx]; rfl
theorem qCatL {s1 s3 : ByteArray} {l : List UInt8} (hp : ∀ w v, Φ p w v → v = .string s1) (h : s1 ++ ⟨l.toArray⟩ = s3) (hsz : s1.size + (⟨l.toArray⟩ : ByteArray).size ≤ 1000000) (hx : Φ x = fun _ v => v = .string s3) : SiteOk Φ P ⟨0, [.fact p, .lit (.cs l)], [⟨.one .t, [(0, 0, x)]⟩], .quiet (mBin .add)⟩ := fun X w ac o xs _ hm ha => by
  obtain ⟨t, y, z, yt, ho, rfl⟩ := mBin_op hm
  subst h
  refine ⟨.string (s1 ++ ⟨l.toArray⟩), w, bin_run' ho (hp _ _ (ha.1 w (Off.refl _ _))) ha.2.1 (by simp) (by simp) ?_, grown_refl w none, ⟨⟨⟨⟨_, rfl⟩, fun _ h => by cases h⟩, fun r hr w1 hw => ?_⟩, trivial⟩⟩
  · show (binOp .add t (.string s1) (.string ⟨l.toArray⟩)).run P w = _
    rw [binOp_string_add]; unfold Op.stringOp; simp only []; rw [if_neg (by rw [show IntKind.i64.max = 9223372036854775807 from rfl]; omega)]; rfl
  · simp only [List.mem_singleton] at hr; subst hr
    show Φ x w1 _; rw [hx]; rfl
end
section
variable {Φ : Nat → World → Value → Prop} {X : Nat → Prop} {p p1 p2 x : Nat} {s : ByteArray} {r : Bool}
theorem IsT {v : Value} (h : v = .string s) : (CSh.one .t).is v := ⟨⟨s, h⟩, fun l e => by rw [h] at e; cases e⟩
theorem outT {w : World} (hx : Φ x = fun _ v => v = .string s) : (CSh.one .t).is (.string s) ∧ ∀ q, q ∈ [(0, 0, x)] → ∀ w1, Off X w w1 → Φ q.2.2 w1 (subV q.1 q.2.1 (.string s)) :=
  ⟨⟨⟨_, rfl⟩, fun _ h => by cases h⟩, fun q hq w1 hw => by
    simp only [List.mem_singleton] at hq; subst hq
    show Φ x w1 _; rw [hx]; rfl⟩
theorem outB {w : World} : (CSh.one (.lit (.cb r))).is (.bool r) ∧ ∀ q, q ∈ ([] : List (Nat × Nat × Nat)) → ∀ w1, Off X w w1 → Φ q.2.2 w1 (subV q.1 q.2.1 (.bool r)) := o0 ⟨rfl, fun _ h => by cases h⟩
theorem sAllDigits (hp : ∀ w v, Φ p w v → v = .string s) (hl : s.size ≤ 400) (hr : allD s.data.toList = r) : SiteOk Φ Tryz.prog ⟨49, [.fact p], [⟨.one (.lit (.cb r)), []⟩], false⟩ := site1 fun X w v h => by
  rw [hp _ _ (get h)]
  cases r with
  | true => exact (allDigits_yes hr hl).mono fun _ _ h => pstB h
  | false => exact (allDigits_no hr hl).mono fun _ _ h => pstB h
theorem sValue {z : Int} (hp : ∀ w v, Φ p w v → v = .string s) (hl : s.size ≤ 400) (hr : allD s.data.toList = true) (hz : (decN 0 s.data.toList : Int) = z) (hx : Φ x = fun w v => NorV w v z 50) : SiteOk Φ Tryz.prog ⟨50, [.fact p], [⟨iS, [(0, 0, x)]⟩], false⟩ := site1 fun X w v h => by
  rw [hp _ _ (get h)]
  subst hz
  exact (value_g hr hl).mono fun _ _ h => pstI hx h
theorem sCutPrefix {t : ByteArray} (hp : ∀ w v, Φ p w v → v = .string s) (ht : unsig s.data.toList = t.data.toList) (hr : minusB s.data.toList = r) (hx : Φ x = fun _ v => v = .string t) : SiteOk Φ Tryz.prog ⟨48, [.fact p, .lit (.cs [45])], [⟨.one .t, [(0, 0, x)]⟩, ⟨.one (.lit (.cb r)), []⟩], true⟩ := site2 fun X w v u h1 h2 => by
  rw [hp _ _ (get h1)]
  have h3 : u = .string ⟨#[45]⟩ := h2
  subst h3
  refine (Tryz.strings_CutPrefix s ⟨#[45]⟩ _).mono ?_
  rintro e w1 ⟨rfl, rfl⟩
  have e1 : (⟨(Lib.trimPrefix s.data.toList [45]).toArray⟩ : ByteArray) = t := by
    show (⟨(unsig s.data.toList).toArray⟩ : ByteArray) = t
    rw [ht]
  have e2 : Lib.hasPrefix s.data.toList [45] = r := hr
  refine ⟨grown_refl _ _, [.string t, .bool r], ?_, outT hx, outB, trivial⟩
  simp only [if_true]
  rw [← e1, ← e2]
theorem sHasPrefix (hp : ∀ w v, Φ p w v → v = .string s) (hr : minusB s.data.toList = r) : SiteOk Φ Tryz.prog ⟨100, [.fact p, .lit (.cs [45])], [⟨.one (.lit (.cb r)), []⟩], false⟩ := site2 fun X w v u h1 h2 => by
  rw [hp _ _ (get h1)]
  have h3 : u = .string ⟨#[45]⟩ := h2
  subst h3
  refine (Tryz.strings_HasPrefix s ⟨#[45]⟩ _).mono ?_
  rintro e w1 ⟨rfl, rfl⟩
  have e2 : Lib.hasPrefix s.data.toList [45] = r := hr
  exact pstB ⟨by rw [← e2], grown_refl _ _⟩
theorem sCutYes {k : Nat} (hp : ∀ w v, Φ p w v → v = .string s) (hl : s.size ≤ 100000) (h : hasSlash s.data.toList = true) (hk : slashAt s.data.toList = k) (h1 : Φ p1 = fun _ v => v = .string (s.extract 0 k)) (h2 : Φ p2 = fun _ v => v = .string (s.extract (k + 1) s.size)) :
    SiteOk Φ Tryz.prog ⟨66, [.fact p, .lit (.cs [47])], [⟨.one .t, [(0, 0, p1)]⟩, ⟨.one .t, [(0, 0, p2)]⟩, ⟨.one (.lit (.cb true)), []⟩], true⟩ := site2 fun X w v u g1 g2 => by
  rw [hp _ _ (get g1)]
  have h3 : u = .string ⟨#[47]⟩ := g2
  subst h3
  refine (Cut_yes _ hl h hk).mono ?_
  rintro e w1 ⟨rfl, g⟩
  exact ⟨g, [_, _, _], rfl, outT h1, outT h2, outB, trivial⟩
theorem sCutNo (hp : ∀ w v, Φ p w v → v = .string s) (h : hasSlash s.data.toList = false) (h1 : Φ p1 = fun _ v => v = .string s) :
    SiteOk Φ Tryz.prog ⟨66, [.fact p, .lit (.cs [47])], [⟨.one .t, [(0, 0, p1)]⟩, ⟨.one (.lit (.cs [])), []⟩, ⟨.one (.lit (.cb false)), []⟩], true⟩ := site2 fun X w v u g1 g2 => by
  rw [hp _ _ (get g1)]
  have h3 : u = .string ⟨#[47]⟩ := g2
  subst h3
  refine (Cut_no _ h).mono ?_
  rintro e w1 ⟨rfl, g⟩
  exact ⟨g, [_, _, _], rfl, outT h1, o0 ⟨rfl, fun _ h => by cases h⟩, outB, trivial⟩
end
end Go.Proofs.YtjakllpnbeagjaaGreatDoor.Sym
