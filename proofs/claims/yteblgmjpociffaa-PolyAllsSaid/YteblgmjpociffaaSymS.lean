/- Contracts as calls of the symbolic walk: whole numbers, rationals, and the reference's. Contracts of chapter 2 and of the reference's whole numbers as calls of the symbolic walk. -/
import Derived.Test.YteblgmjpociffaaSym
import Derived.Test.YteblgmjpociffaaRats
namespace Go.Proofs.Yteblgmjpociffaa.Sym
open Go.RowKit

/-- The predicates of a walk, by number. -/
def ph (L : List (World → Value → Prop)) (p : Nat) : World → Value → Prop := L.getD p (fun _ _ => True)
def iS : CSh := .agg [.b, .s]
def dS : CSh := .agg [.s, .b]
def qS : CSh := .agg [.b, .s, .b, .s]
def sS : CSh := .agg [.s, .b, .s, .b]
section
variable {P : Program} {Φ : Nat → World → Value → Prop}
theorem all_nil : ∀ t, t ∈ ([] : List Site) → SiteOk Φ P t := fun _ h => by cases h
theorem all_cons {s : Site} {l : List Site} (h : SiteOk Φ P s) (hl : ∀ t, t ∈ l → SiteOk Φ P t) : ∀ t, t ∈ s :: l → SiteOk Φ P t := fun t ht => by
  rcases List.mem_cons.1 ht with rfl | ht
  · exact h
  · exact hl t ht
/-- What comes back. -/
def post (Φ : Nat → World → Value → Prop) (X : Nat → Prop) (outs : List Out) (tup : Bool) (w : World) (e : Ending) (w' : World) : Prop :=
  w.grownBy w' none ∧ ∃ us : List Value, e = .returned (if tup then .tuple us.toArray else us.headD undef) ∧ outsOk Φ X w' outs us
theorem site0 {f : FuncId} {outs : List Out} {tup : Bool} (h : ∀ X w, Calls P f #[] w (post Φ X outs tup w)) : SiteOk Φ P ⟨f, [], outs, tup⟩ := fun X w vs _ ha => by
  match vs, ha with
  | [], _ => exact h X w
theorem site1 {f : FuncId} {a : Arg} {outs : List Out} {tup : Bool} (h : ∀ X w v, a.ok Φ X w v → Calls P f #[v] w (post Φ X outs tup w)) : SiteOk Φ P ⟨f, [a], outs, tup⟩ := fun X w vs _ ha => by
  match vs, ha with
  | [v], ha => exact h X w v ha.1
theorem site2 {f : FuncId} {a b : Arg} {outs : List Out} {tup : Bool} (h : ∀ X w v u, a.ok Φ X w v → b.ok Φ X w u → Calls P f #[v, u] w (post Φ X outs tup w)) : SiteOk Φ P ⟨f, [a, b], outs, tup⟩ := fun X w vs _ ha => by
  match vs, ha with
  | [v, u], ha => exact h X w v u ha.1 ha.2.1
theorem get {X : Nat → Prop} {w : World} {p : Nat} {v : Value} (h : (Arg.fact p).ok Φ X w v) : Φ p w v := h w (Off.refl _ _)
/-- One component of what comes back, with one fact. -/
theorem o1 {F : World → Value → Prop} {X : Nat → Prop} {w : World} {v : Value} {sh : CSh} {p : Nat} (hm : ∀ w w1 v, Kp w w1 → F w v → F w1 v) (hp : Φ p = F) (hs : sh.is v) (h : F w v) :
    sh.is v ∧ ∀ q, q ∈ [(0, 0, p)] → ∀ w1, Off X w w1 → Φ q.2.2 w1 (subV q.1 q.2.1 v) := ⟨hs, fun q hq w1 hw => by
  simp only [List.mem_singleton] at hq
  subst hq
  show Φ p w1 v
  rw [hp]; exact hm w w1 v hw.1 h⟩
theorem o0 {X : Nat → Prop} {w : World} {v : Value} {sh : CSh} (hs : sh.is v) : sh.is v ∧ ∀ q, q ∈ ([] : List (Nat × Nat × Nat)) → ∀ w1, Off X w w1 → Φ q.2.2 w1 (subV q.1 q.2.1 v) := ⟨hs, fun q hq => by cases hq⟩
theorem iS_is {b : Bool} {p : Option Addr} {n c : Nat} : iS.is (.agg #[.bool b, .slice p n c]) := ⟨[.bool b, .slice p n c], rfl, ⟨_, rfl⟩, ⟨_, _, _, rfl⟩, trivial⟩
theorem dS_is {b : Bool} {p : Option Addr} {n c : Nat} : dS.is (.agg #[.slice p n c, .bool b]) := ⟨[.slice p n c, .bool b], rfl, ⟨_, _, _, rfl⟩, ⟨_, rfl⟩, trivial⟩
theorem qS_is {b b' : Bool} {p p' : Option Addr} {n c n' c' : Nat} : qS.is (.agg #[.bool b, .slice p n c, .bool b', .slice p' n' c']) := ⟨[.bool b, .slice p n c, .bool b', .slice p' n' c'], rfl, ⟨_, rfl⟩, ⟨_, _, _, rfl⟩, ⟨_, rfl⟩, ⟨_, _, _, rfl⟩, trivial⟩
theorem sS_is {b b' : Bool} {p p' : Option Addr} {n c n' c' : Nat} : sS.is (.agg #[.slice p n c, .bool b, .slice p' n' c', .bool b']) := ⟨[.slice p n c, .bool b, .slice p' n' c', .bool b'], rfl, ⟨_, _, _, rfl⟩, ⟨_, rfl⟩, ⟨_, _, _, rfl⟩, ⟨_, rfl⟩, trivial⟩
/-- A rational, numerator and denominator told. -/
def QV (w : World) (v : Value) (z y : Int) (k : Nat) : Prop := ∃ b p n c b' p' n' c', v = .agg #[.bool b, .slice p n c, .bool b', .slice p' n' c'] ∧ IntV w (.agg #[.bool b, .slice p n c]) z k ∧ IntV w (.agg #[.bool b', .slice p' n' c']) y k
theorem QV.kp {w w' : World} {v : Value} {z y : Int} {k : Nat} (h : QV w v z y k) (g : Kp w w') : QV w' v z y k := by
  obtain ⟨b, p, n, c, b', p', n', c', h1, h2, h3⟩ := h
  exact ⟨b, p, n, c, b', p', n', c', h1, h2.kp g, h3.kp g⟩
theorem QV.q {w : World} {v : Value} {z y : Int} {k : Nat} (h : QV w v z y k) : RatV w v (qOf z y) k := by
  obtain ⟨b, p, n, c, b', p', n', c', h1, h2, h3⟩ := h
  exact ⟨b, p, n, c, b', p', n', c', z, y, h1, h2, h3, rfl⟩
/-- Rows of limbs that came in. -/
def RawI (w : World) (v : Value) (b : Bool) (xs : List Nat) : Prop := ∃ s, v = .agg #[.bool b, s] ∧ Sl w .u32 s xs ∧ All 4294967296 xs
def RawQ (w : World) (v : Value) (b : Bool) (xs : List Nat) (b' : Bool) (ys : List Nat) : Prop := ∃ s s', v = .agg #[.bool b, s, .bool b', s'] ∧ Sl w .u32 s xs ∧ All 4294967296 xs ∧ Sl w .u32 s' ys ∧ All 4294967296 ys
theorem RawI.kp {w w' : World} {v : Value} {b : Bool} {xs : List Nat} (h : RawI w v b xs) (g : Kp w w') : RawI w' v b xs := by
  obtain ⟨s, h1, h2, h3⟩ := h
  exact ⟨s, h1, h2.kp g, h3⟩
theorem RawQ.kp {w w' : World} {v : Value} {b b' : Bool} {xs ys : List Nat} (h : RawQ w v b xs b' ys) (g : Kp w w') : RawQ w' v b xs b' ys := by
  obtain ⟨s, s', h1, h2, h3, h4, h5⟩ := h
  exact ⟨s, s', h1, h2.kp g, h3, h4.kp g, h5⟩
theorem RawI.is {w : World} {v : Value} {b : Bool} {xs : List Nat} (h : RawI w v b xs) : iS.is v := by
  obtain ⟨s, rfl, h2, _⟩ := h
  obtain ⟨p, c, rfl, _⟩ := h2
  exact iS_is
theorem RawQ.is {w : World} {v : Value} {b b' : Bool} {xs ys : List Nat} (h : RawQ w v b xs b' ys) : qS.is v := by
  obtain ⟨s, s', rfl, h2, _, h4, _⟩ := h
  obtain ⟨p, c, rfl, _⟩ := h2
  obtain ⟨p', c', rfl, _⟩ := h4
  exact qS_is
theorem QV.fst {w : World} {v : Value} {z y : Int} {k : Nat} (h : QV w v z y k) : IntV w (subV 0 2 v) z k := by obtain ⟨_, _, _, _, _, _, _, _, rfl, h1, _⟩ := h; exact h1
theorem QV.snd {w : World} {v : Value} {z y : Int} {k : Nat} (h : QV w v z y k) : IntV w (subV 2 2 v) y k := by obtain ⟨_, _, _, _, _, _, _, _, rfl, _, h2⟩ := h; exact h2
theorem DecQ.fst {w : World} {v : Value} {q : Rat} {k : Nat} (h : DecQ w v q k) : DecI w (subV 0 2 v) q.num k := by obtain ⟨_, _, _, _, _, _, _, _, rfl, h1, _⟩ := h; exact h1
theorem DecQ.snd {w : World} {v : Value} {q : Rat} {k : Nat} (h : DecQ w v q k) : DecI w (subV 2 2 v) (q.den : Int) k := by obtain ⟨_, _, _, _, _, _, _, _, rfl, _, h2⟩ := h; exact h2
section
variable {z y : Int} {q : Rat} {k : Nat}
theorem iI : ∀ w v, IntV w v z k → IntV w v z k := fun _ _ h => h
theorem nI : ∀ w v, NorV w v z k → IntV w v z k := fun _ _ h => h.i
theorem nN : ∀ w v, NorV w v z k → NorV w v z k := fun _ _ h => h
theorem dD : ∀ w v, DecI w v z k → DecI w v z k := fun _ _ h => h
theorem tS : ∀ w v, DecQ w v q k → DecQ w v q k := fun _ _ h => h
end
section
variable {X : Nat → Prop} {w w' : World} {e : Ending} {z y : Int} {t : Rat} {k p p1 p2 : Nat}
theorem outN (hp : Φ p = fun w v => NorV w v z k) {v : Value} {b : Bool} {s : Option Addr} {n c : Nat} (hv : v = .agg #[.bool b, .slice s n c]) (h : NorV w v z k) : iS.is v ∧ ∀ q, q ∈ [(0, 0, p)] → ∀ w1, Off X w w1 → Φ q.2.2 w1 (subV q.1 q.2.1 v) :=
  o1 (F := fun w v => NorV w v z k) (fun _ _ _ g h => NorV.kp h g) hp (hv ▸ iS_is) h
theorem outD (hp : Φ p = fun w v => DecI w v z k) {v : Value} {b : Bool} {s : Option Addr} {n c : Nat} (hv : v = .agg #[.slice s n c, .bool b]) (h : DecI w v z k) : dS.is v ∧ ∀ q, q ∈ [(0, 0, p)] → ∀ w1, Off X w w1 → Φ q.2.2 w1 (subV q.1 q.2.1 v) :=
  o1 (F := fun w v => DecI w v z k) (fun _ _ _ g h => DecI.kp h g) hp (hv ▸ dS_is) h
theorem NorQ.is {w : World} {v : Value} {q : Rat} {k : Nat} (h : NorQ w v q k) : qS.is v := by obtain ⟨_, _, _, _, _, _, _, _, rfl, _⟩ := h; exact qS_is
theorem QV.is {w : World} {v : Value} {z y : Int} {k : Nat} (h : QV w v z y k) : qS.is v := by obtain ⟨_, _, _, _, _, _, _, _, rfl, _⟩ := h; exact qS_is
theorem RatV.is {w : World} {v : Value} {q : Rat} {k : Nat} (h : RatV w v q k) : qS.is v := by obtain ⟨_, _, _, _, _, _, _, _, _, _, rfl, _⟩ := h; exact qS_is
theorem DecQ.is {w : World} {v : Value} {q : Rat} {k : Nat} (h : DecQ w v q k) : sS.is v := by obtain ⟨_, _, _, _, _, _, _, _, rfl, _⟩ := h; exact sS_is
theorem IntV.is {w : World} {v : Value} {z : Int} {k : Nat} (h : IntV w v z k) : iS.is v := by
  obtain ⟨b, p, n, c, rfl, _⟩ := h.open; exact iS_is
theorem NorV.is {w : World} {v : Value} {z : Int} {k : Nat} (h : NorV w v z k) : iS.is v := IntV.is h.i
theorem DecI.is {w : World} {v : Value} {z : Int} {k : Nat} (h : DecI w v z k) : dS.is v := by
  obtain ⟨p, c, rfl, _⟩ := h; exact dS_is
theorem DecQ.n {w : World} {v : Value} {q : Rat} {k : Nat} (h : DecQ w v q k) : ∃ p n c b p' n' c' b', v = .agg #[.slice p n c, .bool b, .slice p' n' c', .bool b'] ∧ DecI w (.agg #[.slice p n c, .bool b]) q.num k ∧ DecI w (.agg #[.slice p' n' c', .bool b']) (q.den : Int) k := h
theorem outS (hp : Φ p = fun w v => DecQ w v t k) (h1 : Φ p1 = fun w v => DecI w v t.num k) (h2 : Φ p2 = fun w v => DecI w v (t.den : Int) k) {v : Value} (h : DecQ w v t k) :
    sS.is v ∧ ∀ q, q ∈ [(0, 0, p), (0, 2, p1), (2, 2, p2)] → ∀ w1, Off X w w1 → Φ q.2.2 w1 (subV q.1 q.2.1 v) := by
  refine ⟨DecQ.is h, fun q hq w1 hw => ?_⟩
  have h' := h.kp hw.1
  obtain ⟨b, s, n, c, b', s', n', c', rfl, a1, a2⟩ := id h'
  simp only [List.mem_cons, List.not_mem_nil, or_false] at hq
  rcases hq with rfl | rfl | rfl
  · show Φ p w1 _; rw [hp]; exact h'
  · show Φ p1 w1 _; rw [h1]; exact a1
  · show Φ p2 w1 _; rw [h2]; exact a2
theorem pstI (hp : Φ p = fun w v => NorV w v z k) (h : GotI w z k e w') : post Φ X [⟨iS, [(0, 0, p)]⟩] false w e w' := by
  obtain ⟨b, s, n, c, rfl, h1, h2⟩ := h
  exact ⟨h2, [_], rfl, outN hp rfl h1, trivial⟩
theorem pstD (hp : Φ p = fun w v => DecI w v z k) (h : GotD w z k e w') : post Φ X [⟨dS, [(0, 0, p)]⟩] false w e w' := by
  obtain ⟨s, n, c, b, rfl, h1, h2⟩ := h
  exact ⟨h2, [_], rfl, outD hp rfl h1, trivial⟩
theorem pstS (hp : Φ p = fun w v => DecQ w v t k) (q1 : Φ p1 = fun w v => DecI w v t.num k) (q2 : Φ p2 = fun w v => DecI w v (t.den : Int) k) (h : GotS w t k e w') : post Φ X [⟨sS, [(0, 0, p), (0, 2, p1), (2, 2, p2)]⟩] false w e w' := by
  obtain ⟨b, s, n, c, b', s', n', c', rfl, h1, h2⟩ := h
  exact ⟨h2, [_], rfl, outS hp q1 q2 h1, trivial⟩
/-- A closed value comes back. -/
theorem pstL {a : Atom} (h : e = .returned (a.ev env0) ∧ w.grownBy w' none) (hn : ∀ l, a.ev env0 ≠ .agg l) : post Φ X [⟨.one (.lit a), []⟩] false w e w' := by
  obtain ⟨rfl, h2⟩ := h
  exact ⟨h2, [_], rfl, o0 ⟨rfl, hn⟩, trivial⟩
theorem pstB {b : Bool} (h : e = .returned (.bool b) ∧ w.grownBy w' none) : post Φ X [⟨.one (.lit (.cb b)), []⟩] false w e w' := pstL h (fun _ h => by cases h)
theorem pstZ {x : Int} (h : e = .returned (.int .i64 x) ∧ w.grownBy w' none) : post Φ X [⟨.one (.lit (.ci .i64 x)), []⟩] false w e w' := pstL h (fun _ h => by cases h)
end

/-- A parameter: one that meets p, or a closed one. -/
inductive Pm where
  | fact (p : Nat) (sh : CSh) | lit (a : Atom) | sub (p : Nat) (sh : CSh) (fs : List (Nat × Nat × Nat))
def Pm.arg : Pm → Arg
  | .fact p _ => .fact p
  | .sub p _ _ => .fact p
  | .lit a => .lit a
def Pm.out : Pm → Out
  | .fact p sh => ⟨sh, [(0, 0, p)]⟩
  | .sub p sh fs => ⟨sh, (0, 0, p) :: fs⟩
  | .lit a => ⟨.one (.lit a), []⟩
def subsFine (Φ : Nat → World → Value → Prop) (p : Nat) : List (Nat × Nat × Nat) → Prop
  | [] => True
  | q :: l => (∀ w v, Φ p w v → Φ q.2.2 w (subV q.1 q.2.1 v)) ∧ subsFine Φ p l
theorem subsFine.at {p : Nat} : ∀ {l : List (Nat × Nat × Nat)}, subsFine Φ p l → ∀ q, q ∈ l → ∀ w v, Φ p w v → Φ q.2.2 w (subV q.1 q.2.1 v)
  | _ :: l, h, q, hq => by
    rcases List.mem_cons.1 hq with rfl | hq
    · exact h.1
    · exact subsFine.at h.2 q hq
def Pm.fine (Φ : Nat → World → Value → Prop) : Pm → Prop
  | .fact p sh => ∀ w v, Φ p w v → sh.is v
  | .sub p sh fs => (∀ w v, Φ p w v → sh.is v) ∧ subsFine Φ p fs
  | .lit a => ∀ l, a.ev env0 ≠ .agg l
def allFine (Φ : Nat → World → Value → Prop) : List Pm → Prop
  | [] => True
  | x :: xs => x.fine Φ ∧ allFine Φ xs
theorem ins_ok : ∀ (l : List Pm) (_ : allFine Φ l) (X : Nat → Prop) (w : World) (vs : List Value), (∀ k, X k → k < w.heap.size) → argsOk Φ X w (l.map Pm.arg) vs → outsOk Φ X w (l.map Pm.out) vs
  | [], _, _, _, [], _, _ => trivial
  | x :: xs, hf, X, w, v :: vs, hX, ha => by
    refine ⟨?_, ins_ok xs hf.2 X w vs hX ha.2⟩
    cases x with
    | fact p sh =>
      refine ⟨hf.1 w v (get ha.1), fun q hq w1 hw => ?_⟩
      have hq' : q = (0, 0, p) := by simpa [Pm.out] using hq
      subst hq'
      exact ha.1 w1 hw
    | sub p sh fs =>
      refine ⟨hf.1.1 w v (get ha.1), fun q hq w1 hw => ?_⟩
      rcases List.mem_cons.1 hq with rfl | hq
      · exact ha.1 w1 hw
      · exact hf.1.2.at q hq w1 v (ha.1 w1 hw)
    | lit a =>
      have h0 : v = a.ev env0 := ha.1
      subst h0
      exact o0 ⟨rfl, hf.1⟩
  | [], _, _, _, _ :: _, _, h => h.elim
  | _ :: _, _, _, _, [], _, h => h.elim
/-- A rational that is made of two numbers. -/
theorem QV.join {w : World} {v : Value} {z y : Int} {i j k : Nat} (hs : qS.is v) (h1 : IntV w (subV 0 2 v) z i) (h2 : IntV w (subV 2 2 v) y j) (hi : i ≤ k) (hj : j ≤ k) : QV w v z y k := by
  obtain ⟨vs, rfl, h⟩ := hs
  match vs, h with
  | [v0, v1, v2, v3], h =>
    obtain ⟨⟨b, rfl⟩, ⟨p, n, c, rfl⟩, ⟨b', rfl⟩, ⟨p', n', c', rfl⟩, _⟩ := h
    exact ⟨b, p, n, c, b', p', n', c', rfl, h1.more hi, h2.more hj⟩
section
variable {p p1 p2 i j k : Nat} {z y : Int}
end
-- from a walk back to a contract
section
variable {f : FuncId} {ar : List Arg} {w : World} {vs : List Value} {p k : Nat} {z : Int} {t : Rat}
theorem back1 {sh : CSh} {fs : List (Nat × Nat × Nat)} (h : SiteOk Φ P ⟨f, ar, [⟨sh, fs⟩], false⟩) (ha : argsOk Φ (fun _ => False) w ar vs) {R : Ending → World → Prop}
    (hR : ∀ u w', w.grownBy w' none → sh.is u → (∀ q, q ∈ fs → Φ q.2.2 w' (subV q.1 q.2.1 u)) → R (.returned u) w') : Calls P f vs.toArray w R := by
  refine (h (fun _ => False) w vs (fun _ h => h.elim) ha).mono fun e w' ⟨hg, us, he, ho⟩ => ?_
  match us, ho with
  | [u], ho => subst he; exact hR u w' hg ho.1.1 (fun q hq => ho.1.2 q hq w' (Off.refl _ _))
theorem backS (h : SiteOk Φ P ⟨f, ar, [⟨sS, [(0, 0, p)]⟩], false⟩) (hp : Φ p = fun w v => DecQ w v t k) (ha : argsOk Φ (fun _ => False) w ar vs) : Calls P f vs.toArray w (GotS w t k) :=
  back1 h ha fun u w' hg _ hf => by
    have h1 : DecQ w' u t k := by have := hf (0, 0, p) (by simp); rw [hp] at this; exact this
    obtain ⟨s, n, c, b, s', n', c', b', rfl, _⟩ := id h1
    exact ⟨s, n, c, b, s', n', c', b', rfl, h1, hg⟩
end
-- what is known of results, put otherwise
theorem out1 {o o' : Out} (h : ∀ X w v, (o.sh.is v ∧ ∀ q, q ∈ o.fs → ∀ w1, Off X w w1 → Φ q.2.2 w1 (subV q.1 q.2.1 v)) → o'.sh.is v ∧ ∀ q, q ∈ o'.fs → ∀ w1, Off X w w1 → Φ q.2.2 w1 (subV q.1 q.2.1 v)) : ∀ (X : Nat → Prop) (w : World) (us : List Value), outsOk Φ X w [o] us → outsOk Φ X w [o'] us := fun X w us hu => by
  match us, hu with
  | [u], hu => exact ⟨h X w u hu.1, trivial⟩
theorem weak {sh : CSh} {p x : Nat} (h : ∀ w v, Φ p w v → Φ x w v) (X : Nat → Prop) (w : World) (v : Value) (hv : sh.is v ∧ ∀ q, q ∈ [(0, 0, p)] → ∀ w1, Off X w w1 → Φ q.2.2 w1 (subV q.1 q.2.1 v)) : sh.is v ∧ ∀ q, q ∈ [(0, 0, x)] → ∀ w1, Off X w w1 → Φ q.2.2 w1 (subV q.1 q.2.1 v) :=
  ⟨hv.1, fun q hq w1 hw => by
    simp only [List.mem_singleton] at hq
    subst hq
    exact h w1 _ (hv.2 (0, 0, p) (by simp) w1 hw)⟩
/-- Two halves make a whole. -/
theorem halves {sh : CSh} {p1 p2 x : Nat} (h : ∀ w v, sh.is v → Φ p1 w (subV 0 2 v) → Φ p2 w (subV 2 2 v) → Φ x w v) (X : Nat → Prop) (w : World) (v : Value) (hv : sh.is v ∧ ∀ q, q ∈ [(0, 2, p1), (2, 2, p2)] → ∀ w1, Off X w w1 → Φ q.2.2 w1 (subV q.1 q.2.1 v)) : sh.is v ∧ ∀ q, q ∈ [(0, 0, x)] → ∀ w1, Off X w w1 → Φ q.2.2 w1 (subV q.1 q.2.1 v) :=
  ⟨hv.1, fun q hq w1 hw => by
    simp only [List.mem_singleton] at hq
    subst hq
    exact h w1 _ hv.1 (hv.2 (0, 2, p1) (by simp) w1 hw) (hv.2 (2, 2, p2) (by simp) w1 hw)⟩
theorem NorQ.join {w : World} {v : Value} {t : Rat} {k : Nat} (hs : qS.is v) (h1 : NorV w (subV 0 2 v) t.num k) (h2 : NorV w (subV 2 2 v) (t.den : Int) k) : NorQ w v t k := by
  obtain ⟨vs, rfl, h⟩ := hs
  match vs, h with
  | [v0, v1, v2, v3], h =>
    obtain ⟨⟨b, rfl⟩, ⟨p, n, c, rfl⟩, ⟨b', rfl⟩, ⟨p', n', c', rfl⟩, _⟩ := h
    exact ⟨b, p, n, c, b', p', n', c', rfl, h1, h2⟩
theorem DecQ.join {w : World} {v : Value} {t : Rat} {k : Nat} (hs : sS.is v) (h1 : DecI w (subV 0 2 v) t.num k) (h2 : DecI w (subV 2 2 v) (t.den : Int) k) : DecQ w v t k := by
  obtain ⟨vs, rfl, h⟩ := hs
  match vs, h with
  | [v0, v1, v2, v3], h =>
    obtain ⟨⟨p, n, c, rfl⟩, ⟨b, rfl⟩, ⟨p', n', c', rfl⟩, ⟨b', rfl⟩, _⟩ := h
    exact ⟨p, n, c, b, p', n', c', b', rfl, h1, h2⟩
/-- The law answers true. -/
theorem law_true {f : FuncId} {ar : List Arg} (h : SiteOk Φ P ⟨f, ar, [⟨.one (.lit (.cb true)), []⟩], false⟩) {w : World} {vs : List Value} (ha : argsOk Φ (fun _ => False) w ar vs) : Calls P f vs.toArray w (fun e w' => e = .returned (.bool true) ∧ w.grownBy w' none) := by
  refine (h (fun _ => False) w vs (fun _ h => h.elim) ha).mono fun e w' ⟨hg, us, he, ho⟩ => ?_
  match us, ho with
  | [u], ho =>
    obtain ⟨⟨⟨h1, _⟩, _⟩, _⟩ := ho
    have h1' : u = .bool true := h1
    subst h1'
    exact ⟨he, hg⟩
theorem arg_kp {p : Nat} {F : World → Value → Prop} {w : World} {v : Value} (hp : Φ p = F) (hm : ∀ w w1 v, Kp w w1 → F w v → F w1 v) (h : F w v) : (Arg.fact p).ok Φ (fun _ => False) w v := fun w1 hw => by rw [hp]; exact hm w w1 v hw.1 h
end
end Go.Proofs.Yteblgmjpociffaa.Sym

namespace Go.Proofs.Yteblgmjpociffaa.Sym
open Go.RowKit
section
variable {Φ : Nat → World → Value → Prop}
theorem sMul {p q x i j : Nat} {z : Int} {y : Int} {t : Int} (hp : ∀ w v, Φ p w v → IntV w v z i) (hq : ∀ w v, Φ q w v → IntV w v y j) (hx : Φ x = fun w v => NorV w v t (i + j)) (hi : i + j ≤ 1000000) (ht : z * y = t) : SiteOk Φ Try.prog ⟨52, [.fact p, .fact q], [⟨iS, [(0, 0, x)]⟩], false⟩ :=
  site2 fun _ _ _ _ h0 h1 => (Mul_g (hp _ _ (get h0)) (hq _ _ (get h1)) hi ht).mono fun _ _ h => pstI hx h
theorem sAdd {p q x i j : Nat} {z : Int} {y : Int} {t : Int} (hp : ∀ w v, Φ p w v → IntV w v z i) (hq : ∀ w v, Φ q w v → IntV w v y j) (hx : Φ x = fun w v => NorV w v t (i + j + 1)) (hi : i + j ≤ 1000000) (ht : z + y = t) : SiteOk Φ Try.prog ⟨41, [.fact p, .fact q], [⟨iS, [(0, 0, x)]⟩], false⟩ :=
  site2 fun _ _ _ _ h0 h1 => (Add_g (hp _ _ (get h0)) (hq _ _ (get h1)) hi ht).mono fun _ _ h => pstI hx h
theorem sOfJ {p x : Nat} {t z : Int} (hp : ∀ w v, Φ p w v → v = .int .i64 z) (hx : Φ x = fun w v => NorV w v t 2) (h1 : -9223372036854775808 ≤ z) (h2 : z ≤ 9223372036854775807) (ht : z = t) : SiteOk Φ Try.prog ⟨55, [.fact p], [⟨iS, [(0, 0, x)]⟩], false⟩ :=
  site1 fun _ w v h0 => by
    obtain rfl := hp _ _ (get h0)
    exact (Of_g z h1 h2 ht).mono fun _ _ h => pstI hx h
theorem pstJ {X : Nat → Prop} {w w' : World} {e : Ending} {x : Nat} {t : Int} (hx : Φ x = fun _ v => v = .int .i64 t) (h : e = .returned (.int .i64 t) ∧ w.grownBy w' none) : post Φ X [⟨.one .i, [(0, 0, x)]⟩] false w e w' := by
  obtain ⟨rfl, h2⟩ := h
  exact ⟨h2, [_], rfl, o1 (F := fun _ v => v = .int .i64 t) (fun _ _ _ _ h => h) hx ⟨⟨_, rfl⟩, fun _ h => by cases h⟩ rfl, trivial⟩
theorem sCmpJ {p q x i j : Nat} {z y t : Int} (hp : ∀ w v, Φ p w v → IntV w v z i) (hq : ∀ w v, Φ q w v → IntV w v y j) (hx : Φ x = fun _ v => v = .int .i64 t) (hi : i + j ≤ 1000000) (hr : cmpI z y = t) : SiteOk Φ Try.prog ⟨58, [.fact p, .fact q], [⟨.one .i, [(0, 0, x)]⟩], false⟩ :=
  site2 fun _ _ _ _ h0 h1 => (Cmp_i t (hp _ _ (get h0)) (hq _ _ (get h1)) hi hr).mono fun _ _ h => pstJ hx h
theorem sOf {x : Nat} {t z : Int} (hx : Φ x = fun w v => NorV w v t 2) (h1 : -9223372036854775808 ≤ z) (h2 : z ≤ 9223372036854775807) (ht : z = t) : SiteOk Φ Try.prog ⟨55, [.lit (.ci .i64 z)], [⟨iS, [(0, 0, x)]⟩], false⟩ :=
  site1 fun _ w v h0 => by
    obtain rfl : v = .int .i64 z := h0
    exact (Of_g z h1 h2 ht).mono fun _ _ h => pstI hx h
theorem tMul {p q x i j : Nat} {z : Int} {y : Int} {t : Int} (hp : ∀ w v, Φ p w v → DecI w v z i) (hq : ∀ w v, Φ q w v → DecI w v y j) (hx : Φ x = fun w v => DecI w v t (i + j)) (hi : i + j ≤ 1000000) (ht : z * y = t) : SiteOk Φ Try.prog ⟨79, [.fact p, .fact q], [⟨dS, [(0, 0, x)]⟩], false⟩ :=
  site2 fun _ _ _ _ h0 h1 => (Mul_h (hp _ _ (get h0)) (hq _ _ (get h1)) hi ht).mono fun _ _ h => pstD hx h
theorem tAdd {p q x i j : Nat} {z : Int} {y : Int} {t : Int} (hp : ∀ w v, Φ p w v → DecI w v z i) (hq : ∀ w v, Φ q w v → DecI w v y j) (hx : Φ x = fun w v => DecI w v t (i + j + 1)) (hi : i + j ≤ 1000000) (ht : z + y = t) : SiteOk Φ Try.prog ⟨78, [.fact p, .fact q], [⟨dS, [(0, 0, x)]⟩], false⟩ :=
  site2 fun _ _ _ _ h0 h1 => (Add_h (hp _ _ (get h0)) (hq _ _ (get h1)) hi ht).mono fun _ _ h => pstD hx h
theorem tNeg {p x i : Nat} {z : Int} {t : Int} (hp : ∀ w v, Φ p w v → DecI w v z i) (hx : Φ x = fun w v => DecI w v t i) (ht : -z = t) : SiteOk Φ Try.prog ⟨61, [.fact p], [⟨dS, [(0, 0, x)]⟩], false⟩ :=
  site1 fun _ _ _ h0 => (Neg_h (hp _ _ (get h0)) ht).mono fun _ _ h => pstD hx h
theorem tFrom {p x i : Nat} {z : Int} {t : Int} (hp : ∀ w v, Φ p w v → IntV w v z i) (hx : Φ x = fun w v => DecI w v t i) (hi : i ≤ 1000000) (ht : z = t) : SiteOk Φ Try.prog ⟨27, [.fact p], [⟨dS, [(0, 0, x)]⟩], false⟩ :=
  site1 fun _ _ _ h0 => (ht ▸ From_h (hp _ _ (get h0)) hi).mono fun _ _ h => pstD hx h
theorem tZero {p i : Nat} {z : Int} {r : Bool} (hp : ∀ w v, Φ p w v → DecI w v z i) (hr : decide (z = 0) = r) : SiteOk Φ Try.prog ⟨35, [.fact p], [⟨.one (.lit (.cb r)), []⟩], false⟩ :=
  site1 fun _ _ _ h0 => (Zero_h (hp _ _ (get h0)) hr).mono fun _ _ h => pstB h
theorem tOf {x : Nat} {t z : Int} (hx : Φ x = fun w v => DecI w v t 2) (h1 : -9223372036854775808 ≤ z) (h2 : z ≤ 9223372036854775807) (ht : z = t) : SiteOk Φ Try.prog ⟨28, [.lit (.ci .i64 z)], [⟨dS, [(0, 0, x)]⟩], false⟩ :=
  site1 fun _ w v h0 => by
    obtain rfl : v = .int .i64 z := h0
    exact (Of_h z h1 h2 ht).mono fun _ _ h => pstD hx h
theorem tGcd {p q x i j : Nat} (k : Nat) {z y t : Int} (hp : ∀ w v, Φ p w v → DecI w v z i) (hq : ∀ w v, Φ q w v → DecI w v y j) (hx : Φ x = fun w v => DecI w v t k) (l0 : i ≤ k) (l1 : j ≤ k) (hk : k + k ≤ 1000000) (ht : (Int.gcd z y : Int) = t) : SiteOk Φ Try.prog ⟨62, [.fact p, .fact q], [⟨dS, [(0, 0, x)]⟩], false⟩ :=
  site2 fun _ _ _ _ h0 h1 => (Gcd_h k (hp _ _ (get h0)) (hq _ _ (get h1)) l0 l1 hk ht).mono fun _ _ h => pstD hx h
end
end Go.Proofs.Yteblgmjpociffaa.Sym
