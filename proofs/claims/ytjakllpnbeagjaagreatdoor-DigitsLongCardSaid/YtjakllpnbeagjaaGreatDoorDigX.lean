/- Package digits: Text and Fraction as calls; layer 3's examples. -/
import Derived.Test.YtjakllpnbeagjaaGreatDoorDigW
import Derived.Test.YtjakllpnbeagjaaGreatDoorDigP
import Derived.Test.YtjakllpnbeagjaaGreatDoorSymU
import Derived.Test.YtjakllpnbeagjaaGreatDoorRefV
namespace Go.Proofs.YtjakllpnbeagjaaGreatDoor
open Go.RowKit
set_option maxHeartbeats 1000000 in
theorem Text_any {w : World} {v : Value} {z : Int} {k : Nat} (hx : IntV w v z k) (hk : k ≤ 1000) : Calls Tryz.prog 12 #[v] w fun e w' => e = .returned (.string (txtS z)) ∧ w.grownBy w' none := by
  obtain ⟨b, s, X, rfl, h, rfl⟩ := hx
  obtain ⟨p, n, c, rfl⟩ := h.slice
  have H := Lib.hid (h.grown (grown_alloc w (.cells #[.bool b, .slice p n c] 24) none))
  clear h
  go_enter Tryz.func12, Tryz.ntmps12
  go_wp2_with fail
  with_reducible refine (written_any H.out hk).mono ?_
  rintro e w1 ⟨rfl, g⟩
  have G := Lib.hid (grown_trans (grown_alloc w (.cells #[.bool b, .slice p n c] 24) none) g)
  clear g
  go_wp2_with fail
  go_ret
  exact ⟨rfl, G.out⟩
def fracS (q : Rat) : ByteArray := ⟨(fracT q).toArray⟩
theorem app_list (a b : ByteArray) : (a ++ b).data.toList = a.data.toList ++ b.data.toList := by
  obtain ⟨⟨a⟩⟩ := a
  obtain ⟨⟨b⟩⟩ := b
  simp [ByteArray.data_append]
theorem txtS_nat (n : Nat) : txtS (n : Int) = ⟨(digT n).toArray⟩ := by
  unfold txtS txt
  rw [if_neg (by omega), Int.natAbs_natCast]
theorem fracS_cat {q : Rat} (h : q.den ≠ 1) : txtS q.num ++ ⟨[47].toArray⟩ ++ txtS (q.den : Int) = fracS q := by
  apply str_ext
  rw [app_list, app_list, txtS_nat]
  unfold fracS fracT
  rw [if_neg h]
  simp [txtS]
theorem fracS_one {q : Rat} (h : q.den = 1) : fracS q = txtS q.num := by unfold fracS fracT; rw [if_pos h]; rfl
theorem txtS_size {z : Int} {m : Nat} (h : z.natAbs < 10 ^ m) (hm : 1 ≤ m) : (txtS z).size ≤ m + 1 := by
  rw [Lib.size_eq]
  show (txt z).length ≤ _
  have := digT_len h hm
  unfold txt
  split
  · simp; omega
  · omega
theorem bd_pow {X k : Nat} (h : Bd X k) : X < 10 ^ (10 * k) := by
  rw [Nat.pow_mul]
  exact Nat.lt_of_lt_of_le h (Nat.pow_le_pow_left (by decide) _)
theorem bd_size {z : Int} {k : Nat} (h : Bd z.natAbs k) (hk : k ≤ 1000) : (txtS z).size ≤ 20000 := by
  have h1 : z.natAbs < 10 ^ (10 * k + 1) := Nat.lt_of_lt_of_le (bd_pow h) (Nat.pow_le_pow_right (by omega) (by omega))
  have := txtS_size h1 (by omega)
  omega
theorem cmpI_one {q : Rat} (h : q.den ≠ 1) : cmpI (q.den : Int) 1 = 1 := by
  have := q.den_pos
  unfold cmpI
  rw [if_neg (by omega), if_neg (by omega)]
end Go.Proofs.YtjakllpnbeagjaaGreatDoor
namespace Go.Proofs.YtjakllpnbeagjaaGreatDoor.Sym
open Go.RowKit
theorem NorQ.neg {w : World} {v : Value} {q : Rat} {k : Nat} (h : NorQ w v q k) : subV 0 1 v = .bool (decide (q.num < 0)) := by
  obtain ⟨b, p, n, c, b', p', n', c', rfl, h1, h2⟩ := h
  obtain ⟨p1, cap, e, -⟩ := h1.nor
  simp only [Value.agg.injEq, Array.mk.injEq, List.cons.injEq, and_true] at e
  rw [← e.1]; rfl
theorem NorQ.siz {w : World} {v : Value} {q : Rat} {k : Nat} (h : NorQ w v q k) : Num w (subV 1 1 v) q.num.natAbs k := by
  obtain ⟨b, p, n, c, b', p', n', c', rfl, h1, h2⟩ := h
  have hb := h1.bdd
  obtain ⟨p1, cap, e, h3⟩ := h1.nor
  simp only [Value.agg.injEq, Array.mk.injEq, List.cons.injEq, and_true] at e
  rw [← e.2] at h3
  exact (show NumC w _ _ _ from ⟨h3, hb⟩).num
theorem NorQ.den {w : World} {v : Value} {q : Rat} {k : Nat} (h : NorQ w v q k) : NorV w (subV 2 2 v) (q.den : Int) k := by obtain ⟨_, _, _, _, _, _, _, _, rfl, _, h2⟩ := h; exact h2
/-- A contract of a closed argument. -/
theorem viaL {P : Program} {Φ Ψ : Nat → World → Value → Prop} {f : FuncId} {a : Atom} {outs outs' : List Out} {tup : Bool} (h : SiteOk Ψ P ⟨f, [.fact 0], outs', tup⟩) (hp : ∀ w, Ψ 0 w (a.ev env0)) (ho : ∀ (X : Nat → Prop) (w : World) (us : List Value), outsOk Ψ X w outs' us → outsOk Φ X w outs us) : SiteOk Φ P ⟨f, [.lit a], outs, tup⟩ :=
  fun X w vs hX h' => by
    match vs, h' with
    | [v], h' =>
      have hv : v = a.ev env0 := h'.1
      subst hv
      exact (h X w [_] hX ⟨fun w1 _ => hp w1, trivial⟩).mono fun _ w' ⟨hg, us, he, h2⟩ => ⟨hg, us, he, ho X w' us h2⟩
section
variable {P : Program} {Φ : Nat → World → Value → Prop} {p q x : Nat}
theorem qEqTL {s1 : ByteArray} {l : List UInt8} {r : Bool} (hp : ∀ w v, Φ p w v → v = .string s1) (h : (s1.toList == (⟨l.toArray⟩ : ByteArray).toList) = r) : SiteOk Φ P ⟨0, [.fact p, .lit (.cs l)], [⟨.one (.lit (.cb r)), []⟩], .quiet (mBin .eql)⟩ := fun X w ac o xs _ hm ha => by
  obtain ⟨t, y, z, yt, ho, rfl⟩ := mBin_op hm
  refine ⟨.bool r, w, bin_run' ho (hp _ _ (ha.1 w (Off.refl _ _))) ha.2.1 (by simp) (by simp) ?_, grown_refl w none, ⟨⟨⟨rfl, fun _ h => by cases h⟩, fun r hr => by cases hr⟩, trivial⟩⟩
  show (binOp .eql t (.string s1) (.string ⟨l.toArray⟩)).run P w = _
  rw [binOp_string_eql, h]; rfl
theorem qCatR {s2 s3 : ByteArray} {l : List UInt8} (hp : ∀ w v, Φ p w v → v = .string s2) (h : (⟨l.toArray⟩ : ByteArray) ++ s2 = s3) (hsz : (⟨l.toArray⟩ : ByteArray).size + s2.size ≤ 1000000) (hx : Φ x = fun _ v => v = .string s3) : SiteOk Φ P ⟨0, [.lit (.cs l), .fact p], [⟨.one .t, [(0, 0, x)]⟩], .quiet (mBin .add)⟩ := fun X w ac o xs _ hm ha => by
  obtain ⟨t, y, z, yt, ho, rfl⟩ := mBin_op hm
  subst h
  have h1 : ac.eval y = .string ⟨l.toArray⟩ := ha.1
  refine ⟨.string ((⟨l.toArray⟩ : ByteArray) ++ s2), w, bin_run' ho h1 (hp _ _ (ha.2.1 w (Off.refl _ _))) (by simp) (by simp) ?_, grown_refl w none, ⟨⟨⟨⟨_, rfl⟩, fun _ h => by cases h⟩, fun r hr w1 hw => ?_⟩, trivial⟩⟩
  · rw [binOp_string_add]; unfold Op.stringOp; simp only []; rw [if_neg (by rw [show IntKind.i64.max = 9223372036854775807 from rfl]; omega)]; rfl
  · simp only [List.mem_singleton] at hr; subst hr
    show Φ x w1 _; rw [hx]; rfl
end
section
variable {Φ : Nat → World → Value → Prop} {X : Nat → Prop} {p q x x1 x2 k X0 : Nat} {s : ByteArray} {z : Int}
theorem pstT {w w' : World} {e : Ending} (hx : Φ x = fun _ v => v = .string s) (h : e = .returned (.string s) ∧ w.grownBy w' none) : post Φ X [⟨.one .t, [(0, 0, x)]⟩] false w e w' := by
  obtain ⟨rfl, g⟩ := h
  exact ⟨g, [_], rfl, outT hx, trivial⟩
theorem sText (hp : ∀ w v, Φ p w v → IntV w v z k) (hk : k ≤ 1000) (hx : Φ x = fun _ v => v = .string (txtS z)) : SiteOk Φ Tryz.prog ⟨12, [.fact p], [⟨.one .t, [(0, 0, x)]⟩], false⟩ :=
  site1 fun _ _ _ h => (Text_any (hp _ _ (get h)) hk).mono fun _ _ h => pstT hx h
theorem sWritten {b : Bool} (hp : ∀ w v, Φ p w v → v = .bool b) (hq : ∀ w v, Φ q w v → Num w v X0 k) (hz : sg b X0 = z) (hk : k ≤ 1000) (hx : Φ x = fun _ v => v = .string (txtS z)) : SiteOk Φ Tryz.prog ⟨44, [.fact p, .fact q], [⟨.one .t, [(0, 0, x)]⟩], false⟩ :=
  site2 fun _ _ _ _ h1 h2 => by
    rw [hp _ _ (get h1)]
    subst hz
    exact (written_any (hq _ _ (get h2)) hk).mono fun _ _ h => pstT hx h
theorem sDParseL {l : List UInt8} (h : isNum l = true) (hz : sNum l = z) (hx : Φ x = fun w v => NorV w v z 50) : SiteOk Φ Tryz.prog ⟨16, [.lit (.cs l)], [⟨iS, [(0, 0, x)]⟩, ⟨.one (.lit (.ci .i64 0)), []⟩], true⟩ :=
  viaL (Ψ := ph [fun _ v => v = .string ⟨l.toArray⟩, fun w v => NorV w v z 50]) (sDParse (x := 1) (s := ⟨l.toArray⟩) (fun _ _ h => h) h hz rfl) (fun _ => rfl) (outs_f (fun w v h => by rw [hx]; exact h))
theorem tToR {t : Rat} (hp : ∀ w v, Φ p w v → DecQ w v t k) (hx : Φ x = fun w v => NorQ w v t k) (hx1 : Φ x1 = fun w v => NorV w v t.num k) (hx2 : Φ x2 = fun w v => NorV w v (t.den : Int) k) (hk : k ≤ 200000) : SiteOk Φ Tryz.prog ⟨25, [.fact p], [⟨qS, [(0, 0, x), (0, 2, x1), (2, 2, x2)]⟩], false⟩ :=
  site1 fun _ _ _ h => (ToR_g (hp _ _ (get h)) hk).mono fun _ _ h => pstP hx hx1 hx2 h
end
def phi_frac_1 (q : Rat) (k : Nat) : List (World → Value → Prop) := [fun w v => NorQ w v q k, fun _ v => v = .bool (decide (q.num < 0)), fun w v => Num w v q.num.natAbs k, fun w v => NorV w v (q.den : Int) k, fun _ v => v = .string (txtS q.num), fun w v => NorV w v (1 : Int) 2]
def ins_frac_1 : List Out := [⟨.agg [.b, .s, .b, .s], [(0, 0, 0), (0, 1, 1), (1, 1, 2), (2, 2, 3)]⟩]
def ss_frac_1 : List Site := [⟨44, [.fact 1, .fact 2], [⟨.one (.t), [(0, 0, 4)]⟩], false⟩,
      ⟨57, [.lit (.ci .i64 1)], [⟨.agg [.b, .s], [(0, 0, 5)]⟩], false⟩,
      ⟨56, [.fact 3, .fact 5], [⟨.one (.lit (.ci .i64 0)), []⟩], false⟩]
set_option maxRecDepth 100000 in
theorem frac_1 {q : Rat} {k : Nat} (hk : k ≤ 1000) (h1 : q.den = 1) : SiteOk (ph (phi_frac_1 q k)) Tryz.prog ⟨24, [.fact 0], [⟨.one (.t), [(0, 0, 4)]⟩], false⟩ :=
  fn_ok ins_frac_1 [⟨.one (.t), [(0, 0, 4)]⟩] ss_frac_1 Tryz.func24 (by kernel_rfl)
    (all_cons (sWritten (fun _ _ h => h) (fun _ _ h => h) (sg_self _) (by omega) rfl)
      (all_cons (sOf (z := 1) rfl (by decide) (by decide) rfl)
      (all_cons (sCmp nI nI (by omega) (by rw [h1]; rfl))
      all_nil)))
    (ins_ok [.sub 0 (.agg [.b, .s, .b, .s]) [(0, 1, 1), (1, 1, 2), (2, 2, 3)]] ⟨⟨fun _ _ h => NorQ.is h, fun _ _ h => NorQ.neg h, fun _ _ h => NorQ.siz h, fun _ _ h => NorQ.den h, trivial⟩, trivial⟩) (fun _ _ _ h => h)

def phi_frac_n (q : Rat) (k : Nat) : List (World → Value → Prop) := [fun w v => NorQ w v q k, fun _ v => v = .bool (decide (q.num < 0)), fun w v => Num w v q.num.natAbs k, fun w v => NorV w v (q.den : Int) k, fun _ v => v = .string (txtS q.num), fun w v => NorV w v (1 : Int) 2, fun _ v => v = .string (txtS q.num ++ ⟨[47].toArray⟩), fun _ v => v = .string (txtS (q.den : Int)), fun _ v => v = .string (fracS q)]
def ins_frac_n : List Out := [⟨.agg [.b, .s, .b, .s], [(0, 0, 0), (0, 1, 1), (1, 1, 2), (2, 2, 3)]⟩]
def ss_frac_n : List Site := [⟨44, [.fact 1, .fact 2], [⟨.one (.t), [(0, 0, 4)]⟩], false⟩,
      ⟨57, [.lit (.ci .i64 1)], [⟨.agg [.b, .s], [(0, 0, 5)]⟩], false⟩,
      ⟨56, [.fact 3, .fact 5], [⟨.one (.lit (.ci .i64 1)), []⟩], false⟩,
      ⟨0, [.fact 4, .lit (.cs [47])], [⟨.one (.t), [(0, 0, 6)]⟩], .quiet (mBin .add)⟩,
      ⟨12, [.fact 3], [⟨.one (.t), [(0, 0, 7)]⟩], false⟩,
      ⟨0, [.fact 6, .fact 7], [⟨.one (.t), [(0, 0, 8)]⟩], .quiet (mBin .add)⟩]
set_option maxRecDepth 100000 in
theorem frac_n {q : Rat} {k : Nat} (hk : k ≤ 1000) (h1 : q.den ≠ 1) (hn : (txtS q.num).size ≤ 20000) (hd : (txtS (q.den : Int)).size ≤ 20000) : SiteOk (ph (phi_frac_n q k)) Tryz.prog ⟨24, [.fact 0], [⟨.one (.t), [(0, 0, 8)]⟩], false⟩ :=
  fn_ok ins_frac_n [⟨.one (.t), [(0, 0, 8)]⟩] ss_frac_n Tryz.func24 (by kernel_rfl)
    (all_cons (sWritten (fun _ _ h => h) (fun _ _ h => h) (sg_self _) (by omega) rfl)
      (all_cons (sOf (z := 1) rfl (by decide) (by decide) rfl)
      (all_cons (sCmp nI nI (by omega) (cmpI_one h1))
      (all_cons (qCatL (fun _ _ h => h) (rfl) ((by rw [show (⟨[47].toArray⟩ : ByteArray).size = 1 from rfl]; omega)) rfl)
      (all_cons (sText nI (by omega) rfl)
      (all_cons (qCat (fun _ _ h => h) (fun _ _ h => h) (fracS_cat h1) ((by rw [ByteArray.size_append, show (⟨[47].toArray⟩ : ByteArray).size = 1 from rfl]; omega)) rfl)
      all_nil))))))
    (ins_ok [.sub 0 (.agg [.b, .s, .b, .s]) [(0, 1, 1), (1, 1, 2), (2, 2, 3)]] ⟨⟨fun _ _ h => NorQ.is h, fun _ _ h => NorQ.neg h, fun _ _ h => NorQ.siz h, fun _ _ h => NorQ.den h, trivial⟩, trivial⟩) (fun _ _ _ h => h)

theorem outs_t {Φ Ψ : Nat → World → Value → Prop} {s1 : CSh} {i j : Nat} (hij : ∀ w v, Ψ i w v → Φ j w v) (X : Nat → Prop) (w : World) (us : List Value) (h : outsOk Ψ X w [⟨s1, [(0, 0, i)]⟩] us) : outsOk Φ X w [⟨s1, [(0, 0, j)]⟩] us := by
  match us, h with
  | [a], h =>
    refine ⟨⟨h.1.1, fun q hq w1 hw => ?_⟩, trivial⟩
    simp only [List.mem_singleton] at hq; subst hq
    exact hij _ _ (h.1.2 (0, 0, i) (List.mem_singleton.2 rfl) w1 hw)
theorem sFraction {Φ : Nat → World → Value → Prop} {p x k : Nat} {q : Rat} (hp : ∀ w v, Φ p w v → NorQ w v q k) (hk : k ≤ 1000) (hx : Φ x = fun _ v => v = .string (fracS q)) : SiteOk Φ Tryz.prog ⟨24, [.fact p], [⟨.one .t, [(0, 0, x)]⟩], false⟩ := fun X w vs hX ha => by
  match vs, ha with
  | [v], ha =>
    have h := hp _ _ (get ha.1)
    obtain ⟨_, _, _, _, _, _, _, _, rfl, h1, h2⟩ := id h
    by_cases hd : q.den = 1
    · exact viaT (frac_1 hk hd) (fun w v h => hp w v h) (outs_t (fun w v h => by rw [hx, fracS_one hd]; exact h)) X w _ hX ha
    · exact viaT (frac_n hk hd (bd_size h1.bdd hk) (bd_size h2.bdd hk)) (fun w v h => hp w v h) (outs_t (fun w v h => by rw [hx]; exact h)) X w _ hX ha
def phi_wakes3 : List (World → Value → Prop) := [fun w v => NorV w v (-7 : Int) 50, fun w v => DecI w v (-7 : Int) 2, fun w v => DecQ w v (qOf 1 2) 6, fun w v => DecI w v ((qOf 1 2).num) 6, fun w v => DecI w v ((qOf 1 2).den : Int) 6, fun w v => NorQ w v (qOf 1 2) 6, fun w v => NorV w v ((qOf 1 2).num) 6, fun w v => NorV w v ((qOf 1 2).den : Int) 6, fun _ v => v = .string (fracS (qOf 1 2))]
def ins_wakes3 : List Out := []
def ss_wakes3 : List Site := [⟨16, [.lit (.cs [45, 48, 48, 55])], [⟨.agg [.b, .s], [(0, 0, 0)]⟩, ⟨.one (.lit (.ci .i64 0)), []⟩], true⟩,
      ⟨47, [.lit (.ci .i64 (-7))], [⟨.agg [.s, .b], [(0, 0, 1)]⟩], false⟩,
      ⟨19, [.fact 1, .fact 0], [⟨.one (.lit (.cb true)), []⟩], false⟩,
      ⟨28, [.lit (.ci .i64 1), .lit (.ci .i64 2)], [⟨.agg [.s, .b, .s, .b], [(0, 0, 2), (0, 2, 3), (2, 2, 4)]⟩], false⟩,
      ⟨25, [.fact 2], [⟨.agg [.b, .s, .b, .s], [(0, 0, 5), (0, 2, 6), (2, 2, 7)]⟩], false⟩,
      ⟨24, [.fact 5], [⟨.one (.t), [(0, 0, 8)]⟩], false⟩,
      ⟨0, [.fact 8, .lit (.cs [49, 47, 50])], [⟨.one (.lit (.cb true)), []⟩], .quiet (mBin .eql)⟩]
set_option maxRecDepth 100000 in
theorem wakes3   : SiteOk (ph phi_wakes3) Tryz.prog ⟨15, [], [⟨.one (.lit (.cb true)), []⟩], false⟩ :=
  fn_ok ins_wakes3 [⟨.one (.lit (.cb true)), []⟩] ss_wakes3 Tryz.func15 (by kernel_rfl)
    (all_cons (sDParseL (by decide +kernel) (by decide +kernel) rfl)
      (all_cons (tOf (z := -7) rfl (by decide) (by decide) rfl)
      (all_cons (tSame dD nN (by omega) rfl rfl)
      (all_cons (tOfR (z := 1) (y := 2) rfl rfl rfl (by decide) (by decide) (by decide) (by decide) rfl)
      (all_cons (tToR tS rfl rfl rfl (by omega))
      (all_cons (sFraction pP (by omega) rfl)
      (all_cons (qEqTL (fun _ _ h => h) (by decide +kernel))
      all_nil)))))))
    (ins_ok [] trivial) (fun _ _ _ h => h)

theorem sWakes3 {Φ : Nat → World → Value → Prop} : SiteOk Φ Tryz.prog ⟨15, [], [⟨.one (.lit (.cb true)), []⟩], false⟩ := fun X w vs hX ha => by
  match vs, ha with
  | [], _ =>
    exact (wakes3 X w [] hX trivial).mono fun _ w' ⟨hg, us, he, h2⟩ => ⟨hg, us, he, by
      match us, h2 with
      | [a], h2 => exact ⟨⟨h2.1.1, fun q hq => by cases hq⟩, trivial⟩⟩
end Go.Proofs.YtjakllpnbeagjaaGreatDoor.Sym
