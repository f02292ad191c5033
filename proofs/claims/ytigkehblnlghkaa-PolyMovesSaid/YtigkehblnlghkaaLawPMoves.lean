/- PolyMoves holds: for every polynomial and every two whole numbers the law returns true and leaves them as they were. No condition. -/
import Derived.Test.YtigkehblnlghkaaMovA
import Derived.Test.YtigkehblnlghkaaPolD
import Derived.Test.YtigkehblnlghkaaPolO
import Derived.Test.YtigkehblnlghkaaPolQ
namespace Go.Proofs.Ytigkehblnlghkaa.pmoves
open Go.ChangeShapes Go.WideShapes Go.ChangeAt Go.RowKit
open Go.Proofs.Ytigkehblnlghkaa.Sym hiding val run start

theorem qLenNil {P : Program} {Φ : Nat → World → Value → Prop} {T e : TypeId} (hT : P.underlying T = some (.slice e)) : SiteOk Φ P ⟨0, [.lit .nl], [⟨.one (.lit (.ci .i64 0)), []⟩], .quiet (mLen T)⟩ := fun X w ac o xs _ hm ha => by
  unfold mLen at hm
  split at hm
  case h_2 => cases hm
  rename_i args ts ho
  split at hm
  case isFalse => cases hm
  rename_i hts
  subst hts
  simp only [Option.some.injEq] at hm
  subst hm
  match hl : args.toList, ha with
  | [y], ha =>
    have hv : ac.eval y = .slice none 0 0 := ha.1
    have hargs : args = #[y] := by apply Array.ext'; simpa using hl
    subst hargs
    refine ⟨.int .i64 0, w, ?_, grown_refl w none, ⟨⟨⟨rfl, fun _ h => by cases h⟩, fun r hr => by cases hr⟩, trivial⟩⟩
    unfold execOp
    simp [ho, resolve, invoke, builtin, Builtin.len_, run_underlying hT, hv, goInt]
theorem DecQ.row {w : World} {v : Value} {q : Rat} {k : Nat} (h : DecQ w v q k) : v.cells.size = 4 ∧ DecQ w (.agg v.cells) q k := by
  obtain ⟨p, n, c, b, p', n', c', b', rfl, h2⟩ := h
  exact ⟨rfl, p, n, c, b, p', n', c', b', rfl, h2⟩
section
variable {Φ : Nat → World → Value → Prop} {a b sz : Nat} {F : Nat → World → Value → Prop}
theorem rowN1 (h : ∀ w v, Φ a w v → v.cells.size = sz ∧ F 0 w (.agg v.cells)) : ∀ (i p : Nat), [a][i]? = some p → ∀ w v, Φ p w v → v.cells.size = sz ∧ F i w (.agg v.cells)
  | 0, p, hp => by
    simp only [List.getElem?_cons_zero, Option.some.injEq] at hp
    subst hp; exact h
  | i + 1, p, hp => by simp at hp
theorem rowN2 (h : ∀ w v, Φ a w v → v.cells.size = sz ∧ F 0 w (.agg v.cells)) (h' : ∀ w v, Φ b w v → v.cells.size = sz ∧ F 1 w (.agg v.cells)) : ∀ (i p : Nat), [a, b][i]? = some p → ∀ w v, Φ p w v → v.cells.size = sz ∧ F i w (.agg v.cells)
  | 0, p, hp => by
    simp only [List.getElem?_cons_zero, Option.some.injEq] at hp
    subst hp; exact h
  | 1, p, hp => by
    simp only [List.getElem?_cons_succ, List.getElem?_cons_zero, Option.some.injEq] at hp
    subst hp; exact h'
  | i + 2, p, hp => by simp at hp
end
theorem scale_pow (a : Rat) (z : Int) (j : Nat) : a * (z : Rat) ^ j * qOf z (1 : Int) = a * (z : Rat) ^ (j + 1) := by
  rw [qOf_int, Rat.pow_succ, Rat.mul_assoc]
theorem st_0 {u d : Int} (hd : d ≠ 0) : qOf u d = stpM u d 0 := qOf_ne hd
theorem st_1 {u d : Int} (hd : d ≠ 0) : qOf 1 1 = stpM u d 1 := by
  rw [qOf_int]
  have h' : (d : Rat) ≠ 0 := by exact_mod_cast hd
  rw [stpM, Rat.divInt_eq_div, show sI u d 1 = d from rfl, Rat.div_def, Rat.mul_inv_cancel _ h']
  rfl
theorem wM_pow {c : Nat → Int} {T : Nat} {u d : Int} (j i : Nat) : wM c T u d T i * (d : Rat) ^ j = Rat.divInt (gM c T u d T i * d ^ j) (d ^ (T - 1)) := by
  rw [wM, Rat.divInt_eq_div, Rat.divInt_eq_div]
  push_cast
  grind
def b_path_0 (aa : Nat → Bool) (xsa : Nat → List Nat) (eza : Nat → Int) (ma Na : Nat) (a0 a1 : Bool) (xs0 xs1 : List Nat) (z0 z1 : Int) : List (World → Value → Prop) := [fun w v => Rw 2 (fun ι w v => RawI w v (aa ι) (xsa ι)) ma w v, fun w v => RawI w v a0 xs0, fun w v => RawI w v a1 xs1, fun w v => Rw 2 (fun ι w v => KI w v (aa ι) ((fun ι => (xsa ι).take 3) ι) (eza ι) 3) Na w v, fun w v => Rw 4 (fun ι w v => DecQ w v ((((coef (trimL (mk Na eza))) ι : Int) : Rat)) (3 + 2 + 2)) ((trimL (mk Na eza)).length) w v, fun w v => RawI w v a0 (xs0.take 2), fun w v => IntV w v z0 2, fun w v => RawI w v a1 (xs1.take 2), fun w v => IntV w v z1 2, fun w v => DecI w v z0 2, fun w v => DecI w v z1 2]
def ss_path_0 : List Step := [.base ⟨6, [.fact 0, .lit (.ci .i64 6), .lit (.ci .i64 3)], [⟨.one (.s), [(0, 0, 3)]⟩, ⟨.one (.s), [(0, 0, 4)]⟩], true⟩,
      .base ⟨24, [.fact 1, .lit (.ci .i64 2)], [⟨.agg [.b, .s], [(0, 0, 5), (0, 0, 6)]⟩], false⟩,
      .base ⟨24, [.fact 2, .lit (.ci .i64 2)], [⟨.agg [.b, .s], [(0, 0, 7), (0, 0, 8)]⟩], false⟩,
      .base ⟨34, [.fact 3, .fact 6, .fact 8], [⟨.one (.lit (.nl)), []⟩, ⟨.one (.lit (.ci .i64 2)), []⟩], true⟩,
      .base ⟨27, [.fact 6], [⟨.agg [.s, .b], [(0, 0, 9)]⟩], false⟩,
      .base ⟨27, [.fact 8], [⟨.agg [.s, .b], [(0, 0, 10)]⟩], false⟩,
      .base ⟨35, [.fact 10], [⟨.one (.lit (.cb true)), []⟩], false⟩,
      .base ⟨0, [.lit .nl], [⟨.one (.lit (.ci .i64 0)), []⟩], .quiet (mLen 23)⟩,
      .base ⟨23, [], [⟨.one (.lit (.cb true)), []⟩], false⟩]
def ins_path_0 : List Out := [⟨.one (.s), [(0, 0, 0)]⟩, ⟨.agg [.b, .s], [(0, 0, 1)]⟩, ⟨.agg [.b, .s], [(0, 0, 2)]⟩]
set_option maxRecDepth 100000 in
theorem path_0 {aa : Nat → Bool} {xsa : Nat → List Nat} {eza : Nat → Int} {ma Na : Nat} {a0 a1 : Bool} {xs0 xs1 : List Nat} {z0 z1 : Int} (hn : ma ≤ 9223372036854775807) (hza : ∀ j, sg (aa j) (Proofs.Ytigkehblnlghkaa.val 4294967296 ((xsa j).take 3)) = eza j) (hNna : min ma 6 = Na) (hz0 : sg a0 (Proofs.Ytigkehblnlghkaa.val 4294967296 (xs0.take 2)) = z0) (hz1 : sg a1 (Proofs.Ytigkehblnlghkaa.val 4294967296 (xs1.take 2)) = z1) (h0 : z1 = 0) : SiteOk (ph (b_path_0 aa xsa eza ma Na a0 a1 xs0 xs1 z0 z1)) Try.prog ⟨5, [.fact 0, .fact 1, .fact 2], [⟨.one (.lit (.cb true)), []⟩], false⟩ := by
  skip
  exact fn_okL ins_path_0 [⟨.one (.lit (.cb true)), []⟩] ss_path_0 Try.func5 (by kernel_rfl)
    (lbase (sCut5 6 3 rfl rfl (fun _ _ h => h) rfl rfl (by omega) (by omega) (by omega) hza hNna)
      (lbase (sKIntR 2 rfl (fun _ _ h => h) rfl rfl hz0)
      (lbase (sKIntR 2 rfl (fun _ _ h => h) rfl rfl hz1)
      (lbase (sMove0 (z := eza) (n := Na) (fun _ _ h => Rw.to (sz := 2) (n := Na) (F := (fun ι w v => KI w v (aa ι) ((fun ι => (xsa ι).take 3) ι) (eza ι) 3)) (h) (fun i w v _ h => (fun _ _ _ h => And.right h) i w v h)) iI iI (by omega) h0)
      (lbase (tFrom iI rfl (by omega) rfl)
      (lbase (tFrom iI rfl (by omega) rfl)
      (lbase (tZero dD (decide_eq_true h0))
      (lbase (qLenNil Try.underlying23)
      (lbase (sWakes5)
      lnil)))))))))
    (ins_ok [.fact 0 (.one (.s)), .fact 1 (.agg [.b, .s]), .fact 2 (.agg [.b, .s])] ⟨fun _ _ h => Rw.is (sz := 2) (F := (fun ι w v => RawI w v (aa ι) (xsa ι))) (n := ma) h, fun _ _ h => RawI.is h, fun _ _ h => RawI.is h, trivial⟩) (fun _ _ _ h => h)

def b_path_1 (aa : Nat → Bool) (xsa : Nat → List Nat) (eza : Nat → Int) (ma Na : Nat) (a0 a1 : Bool) (xs0 xs1 : List Nat) (z0 z1 : Int) (T : Nat) (M : List Int) : List (World → Value → Prop) := [fun w v => Rw 2 (fun ι w v => RawI w v (aa ι) (xsa ι)) ma w v, fun w v => RawI w v a0 xs0, fun w v => RawI w v a1 xs1, fun w v => Rw 2 (fun ι w v => KI w v (aa ι) ((fun ι => (xsa ι).take 3) ι) (eza ι) 3) Na w v, fun w v => Rw 4 (fun ι w v => DecQ w v ((((coef (trimL (mk Na eza))) ι : Int) : Rat)) (3 + 2 + 2)) ((trimL (mk Na eza)).length) w v, fun w v => RawI w v a0 (xs0.take 2), fun w v => IntV w v z0 2, fun w v => RawI w v a1 (xs1.take 2), fun w v => IntV w v z1 2, fun w v => Rw 2 (fun ι w v => NorV w v ((coef M) ι) 400) M.length w v, fun w v => DecI w v z0 2, fun w v => DecI w v z1 2, fun w v => DecQ w v (qOf z0 z1) (2 + 2 + 2), fun w v => DecI w v ((qOf z0 z1).num) (2 + 2 + 2), fun w v => DecI w v ((qOf z0 z1).den : Int) (2 + 2 + 2), fun w v => DecQ w v (qOf 1 1) 6, fun w v => DecI w v ((qOf 1 1).num) 6, fun w v => DecI w v ((qOf 1 1).den : Int) 6, fun w v => Rw 4 (fun ι w v => DecQ w v ((stpM z0 z1) ι) 80) 2 w v, fun _ v => v = .int .i64 (((trimL (mk Na eza)).length : Nat) : Int), fun _ v => v = .int .i64 (((T : Nat) : Int) - 1), fun w v => Rw 4 (fun ι w v => DecQ w v ((wM eza T z0 z1 T) ι) 80) T w v, fun w v => Rw 4 (fun ι w v => DecQ w v ((fun i => wM eza T z0 z1 T i * (z1 : Rat) ^ (T - 1)) ι) 80) T w v]
def l_path_1_2 (eza : Nat → Int) (Na : Nat) (z0 z1 : Int) (T : Nat) (j : Nat) : List (World → Value → Prop) := [fun _ v => v = .int .i64 (((j + 1) : Nat) : Int), fun w v => Rw 4 (fun ι w v => DecQ w v ((fun i => wM eza T z0 z1 T i * (z1 : Rat) ^ j) ι) 80) T w v, fun _ v => v = .int .i64 (((trimL (mk Na eza)).length : Nat) : Int), fun w v => DecI w v (1 : Int) 2, fun w v => DecQ w v (qOf z1 (1 : Int)) (2 + 2 + 2), fun w v => DecI w v ((qOf z1 (1 : Int)).num) (2 + 2 + 2), fun w v => DecI w v ((qOf z1 (1 : Int)).den : Int) (2 + 2 + 2), fun w v => Rw 4 (fun ι w v => DecQ w v ((fun i => (fun i => wM eza T z0 z1 T i * (z1 : Rat) ^ j) i * (qOf z1 (1 : Int))) ι) 80) T w v, fun _ v => v = .int .i64 (((j + 1 + 1) : Nat) : Int), fun _ v => v = .int .i64 (((trimL (mk Na eza)).length : Nat) : Int)]
def d_path_1_2 : LoopD := ⟨[0, 1, 2, 4, 5, 6, 7, 8, 9, 10, 11, 13, 14, 16, 17, 18, 19, 20, 21, 22, 23, 24, 25, 26, 27, 28, 29, 30, 31, 32, 33, 34, 35, 36, 37, 48, 49, 50, 51, 52, 53, 54, 55, 56, 57], [(.slot 15, .i), (.slot 12, .s)], [(.one 0, 23), (.one 1, 24)], [.closed (.one (.ci .i64 1)), .from 21], 23, [(24, 22)]⟩
def r_path_1_2_0 : List Step := [.base ⟨0, [.fact 4], [⟨.one (.i), [(0, 0, 25)]⟩], .quiet (mLen 25)⟩,
      .base ⟨0, [.fact 23, .fact 25], [⟨.one (.lit (.cb true)), []⟩], .quiet (mBin .lss)⟩,
      .base ⟨28, [.lit (.ci .i64 1)], [⟨.agg [.s, .b], [(0, 0, 26)]⟩], false⟩,
      .base ⟨26, [.fact 11, .fact 26], [⟨.agg [.s, .b, .s, .b], [(0, 0, 27), (0, 2, 28), (2, 2, 29)]⟩], false⟩,
      .base ⟨31, [.fact 24, .fact 27], [⟨.one (.s), [(0, 0, 30)]⟩], false⟩,
      .base ⟨0, [.fact 23, .lit (.ci .i64 1)], [⟨.one (.i), [(0, 0, 31)]⟩], .quiet (mBin .add)⟩]
def o_path_1_2 : List Step := [.base ⟨0, [.fact 4], [⟨.one (.i), [(0, 0, 32)]⟩], .quiet (mLen 25)⟩,
      .base ⟨0, [.fact 23, .fact 32], [⟨.one (.lit (.cb false)), []⟩], .quiet (mBin .lss)⟩]
def l_path_1_1 (eza : Nat → Int) (Na : Nat) (z0 z1 : Int) (T : Nat) (j : Nat) : List (World → Value → Prop) := [fun _ v => v = .int .i64 (((T : Nat) : Int) - 1 - ((j : Nat) : Int)), fun w v => Rw 4 (fun ι w v => DecQ w v ((wM eza T z0 z1 j) ι) 80) j w v, fun w v => Rw 4 (fun ι w v => DecQ w v ((cvSQ (wM eza T z0 z1 j) (stpM z0 z1) 2 j) ι) 80) (if j = 0 then 0 else j + 1) w v, fun w v => Ptr 4 (fun w v => DecQ w v ((((coef (trimL (mk Na eza))) (T - 1 - j) : Int) : Rat)) (3 + 2 + 2)) w v, fun w v => DecQ w v ((((coef (trimL (mk Na eza))) (T - 1 - j) : Int) : Rat)) (3 + 2 + 2), fun w v => Rw 4 (fun ι w v => DecQ w v ((fun _ => ((eza (T - 1 - j) : Int) : Rat)) ι) 80) 1 w v, fun w v => Rw 4 (fun ι w v => DecQ w v ((aQ (cvSQ (wM eza T z0 z1 j) (stpM z0 z1) 2 j) (if j = 0 then 0 else j + 1) (fun _ => ((eza (T - 1 - j) : Int) : Rat)) 1) ι) 80) (j + 1) w v, fun _ v => v = .int .i64 (((j + 1) : Nat) : Int), fun _ v => v = .int .i64 (((j + 1) : Nat) : Int), fun _ v => v = .int .i64 ((j : Nat) : Int), fun w v => Ptr 4 (fun w v => DecQ w v ((aQ (cvSQ (wM eza T z0 z1 j) (stpM z0 z1) 2 j) (if j = 0 then 0 else j + 1) (fun _ => ((eza (T - 1 - j) : Int) : Rat)) 1) j) 80) w v, fun w v => Ptr 2 (fun w v => DecI w v (((aQ (cvSQ (wM eza T z0 z1 j) (stpM z0 z1) 2 j) (if j = 0 then 0 else j + 1) (fun _ => ((eza (T - 1 - j) : Int) : Rat)) 1) j).num) 80) w v, fun w v => DecI w v (((aQ (cvSQ (wM eza T z0 z1 j) (stpM z0 z1) 2 j) (if j = 0 then 0 else j + 1) (fun _ => ((eza (T - 1 - j) : Int) : Rat)) 1) j).num) 80, fun _ v => v = .int .i64 ((((T : Nat) : Int) - 1 - ((j : Nat) : Int)) - 1)]
def d_path_1_1 : LoopD := ⟨[0, 1, 2, 4, 5, 6, 7, 8, 9, 10, 11, 13, 16, 17, 18, 19, 20, 21, 22, 23, 24, 25, 26, 27, 28, 29, 30, 31, 32, 33, 34, 35, 36, 37, 48, 49, 50, 51, 52, 53, 54, 55], [(.slot 14, .i), (.slot 12, .s)], [(.one 0, 23), (.one 1, 24)], [.from 20, .closed (.one (.nl))], 23, [(24, 21)]⟩
def r_path_1_1_0 : List Step := [.base ⟨0, [.fact 23, .lit (.ci .i64 0)], [⟨.one (.lit (.cb true)), []⟩], .quiet (mBin .geq)⟩,
      .base ⟨15, [.fact 24, .fact 18], [⟨.one (.s), [(0, 0, 25)]⟩], false⟩,
      .base ⟨0, [.fact 4, .fact 23], [⟨.one (.p), [(0, 0, 26)]⟩], .quiet (mIdx 25)⟩,
      .base ⟨0, [.fact 26], [⟨.agg [.s, .b, .s, .b], [(0, 0, 27)]⟩], .quiet (mLoad 47)⟩,
      .base ⟨0, [.any, .fact 27], [⟨.one (.s), [(0, 0, 28)]⟩], .fresh [] (mRow 25 1)⟩,
      .base ⟨10, [.fact 25, .fact 28], [⟨.one (.s), [(0, 0, 29)]⟩], false⟩,
      .base ⟨0, [.fact 29], [⟨.one (.i), [(0, 0, 30)]⟩], .quiet (mLen 25)⟩,
      .base ⟨0, [.fact 30, .lit (.ci .i64 0)], [⟨.one (.lit (.cb true)), []⟩], .quiet (mBin .gtr)⟩,
      .base ⟨0, [.fact 29], [⟨.one (.i), [(0, 0, 31)]⟩], .quiet (mLen 25)⟩,
      .base ⟨0, [.fact 31, .lit (.ci .i64 1)], [⟨.one (.i), [(0, 0, 32)]⟩], .quiet (mBin .sub)⟩,
      .base ⟨0, [.fact 29, .fact 32], [⟨.one (.p), [(0, 0, 33)]⟩], .quiet (mIdx 25)⟩,
      .base ⟨0, [.fact 33], [⟨.one (.p), [(0, 0, 34)]⟩], .quiet (mFld 47 0)⟩,
      .base ⟨0, [.fact 34], [⟨.agg [.s, .b], [(0, 0, 35)]⟩], .quiet (mLoad 45)⟩,
      .base ⟨35, [.fact 35], [⟨.one (.lit (.cb false)), []⟩], false⟩,
      .base ⟨0, [.fact 23, .lit (.ci .i64 1)], [⟨.one (.i), [(0, 0, 36)]⟩], .quiet (mBin .sub)⟩]
def o_path_1_1 : List Step := [.base ⟨0, [.fact 23, .lit (.ci .i64 0)], [⟨.one (.lit (.cb false)), []⟩], .quiet (mBin .geq)⟩]
def ss_path_1 : List Step := [.base ⟨6, [.fact 0, .lit (.ci .i64 6), .lit (.ci .i64 3)], [⟨.one (.s), [(0, 0, 3)]⟩, ⟨.one (.s), [(0, 0, 4)]⟩], true⟩,
      .base ⟨24, [.fact 1, .lit (.ci .i64 2)], [⟨.agg [.b, .s], [(0, 0, 5), (0, 0, 6)]⟩], false⟩,
      .base ⟨24, [.fact 2, .lit (.ci .i64 2)], [⟨.agg [.b, .s], [(0, 0, 7), (0, 0, 8)]⟩], false⟩,
      .base ⟨34, [.fact 3, .fact 6, .fact 8], [⟨.one (.s), [(0, 0, 9)]⟩, ⟨.one (.lit (.ci .i64 0)), []⟩], true⟩,
      .base ⟨27, [.fact 6], [⟨.agg [.s, .b], [(0, 0, 10)]⟩], false⟩,
      .base ⟨27, [.fact 8], [⟨.agg [.s, .b], [(0, 0, 11)]⟩], false⟩,
      .base ⟨35, [.fact 11], [⟨.one (.lit (.cb false)), []⟩], false⟩,
      .base ⟨26, [.fact 10, .fact 11], [⟨.agg [.s, .b, .s, .b], [(0, 0, 12), (0, 2, 13), (2, 2, 14)]⟩], false⟩,
      .base ⟨36, [.lit (.ci .i64 1), .lit (.ci .i64 1)], [⟨.agg [.s, .b, .s, .b], [(0, 0, 15), (0, 2, 16), (2, 2, 17)]⟩], false⟩,
      .base ⟨0, [.any, .fact 12, .fact 15], [⟨.one (.s), [(0, 0, 18)]⟩], .fresh [] (mRow 25 2)⟩,
      .base ⟨0, [.fact 4], [⟨.one (.i), [(0, 0, 19)]⟩], .quiet (mLen 25)⟩,
      .base ⟨0, [.fact 19, .lit (.ci .i64 1)], [⟨.one (.i), [(0, 0, 20)]⟩], .quiet (mBin .sub)⟩,
      .loop d_path_1_1 [(r_path_1_1_0, [.from 36, .from 29])] o_path_1_1,
      .loop d_path_1_2 [(r_path_1_2_0, [.from 31, .from 30])] o_path_1_2,
      .base ⟨9, [.fact 22, .fact 9], [⟨.one (.lit (.cb true)), []⟩], false⟩,
      .base ⟨23, [], [⟨.one (.lit (.cb true)), []⟩], false⟩]
def ins_path_1 : List Out := [⟨.one (.s), [(0, 0, 0)]⟩, ⟨.agg [.b, .s], [(0, 0, 1)]⟩, ⟨.agg [.b, .s], [(0, 0, 2)]⟩]
set_option maxRecDepth 100000 in
theorem path_1 {aa : Nat → Bool} {xsa : Nat → List Nat} {eza : Nat → Int} {ma Na : Nat} {a0 a1 : Bool} {xs0 xs1 : List Nat} {z0 z1 : Int} {T : Nat} {M : List Int} (hn : ma ≤ 9223372036854775807) (hza : ∀ j, sg (aa j) (Proofs.Ytigkehblnlghkaa.val 4294967296 ((xsa j).take 3)) = eza j) (hNna : min ma 6 = Na) (hz0 : sg a0 (Proofs.Ytigkehblnlghkaa.val 4294967296 (xs0.take 2)) = z0) (hz1 : sg a1 (Proofs.Ytigkehblnlghkaa.val 4294967296 (xs1.take 2)) = z1) (h0 : z1 ≠ 0) (hT0 : (trimL (mk Na eza)).length = T) (hT6 : T ≤ 6) (hT : M.length = T)
    (hp : ∀ j, j ≤ tl eza Na → Bd (z1 ^ j).natAbs 20) (hm : ∀ j a, j ≤ tl eza Na → a < tl eza Na → Bd (mvS eza Na z0 z1 j a).natAbs 300) (hM : mvL eza Na z0 z1 = M)
    (hst0 : qOf z0 z1 = stpM z0 z1 0) (hst1 : qOf 1 1 = stpM z0 z1 1) (hL : ∀ i, i < T → ((coef (trimL (mk Na eza)) i : Int) : Rat) = ((eza i : Int) : Rat))
    (hB1 : ∀ j, j < T → ∀ a b p, a < j → b ≤ 2 → Bd (cvIQ (wM eza T z0 z1 j) (stpM z0 z1) 2 a b p).num.natAbs 80 ∧ Bd (cvIQ (wM eza T z0 z1 j) (stpM z0 z1) 2 a b p).den 80)
    (hN1 : ∀ j, j < T → (if j = 0 ∨ 2 = 0 then 0 else tl (fun i => ((cvSQ (wM eza T z0 z1 j) (stpM z0 z1) 2 j) i).num) (j + 2 - 1)) = (if j = 0 then 0 else j + 1))
    (hB2 : ∀ j, j < T → ∀ i, i < max (if j = 0 then 0 else j + 1) 1 → Bd ((aQ (cvSQ (wM eza T z0 z1 j) (stpM z0 z1) 2 j) (if j = 0 then 0 else j + 1) (fun _ => ((eza (T - 1 - j) : Int) : Rat)) 1 i)).num.natAbs 80 ∧ Bd ((aQ (cvSQ (wM eza T z0 z1 j) (stpM z0 z1) 2 j) (if j = 0 then 0 else j + 1) (fun _ => ((eza (T - 1 - j) : Int) : Rat)) 1 i)).den 80)
    (hN2 : ∀ j, j < T → tl (fun i => ((aQ (cvSQ (wM eza T z0 z1 j) (stpM z0 z1) 2 j) (if j = 0 then 0 else j + 1) (fun _ => ((eza (T - 1 - j) : Int) : Rat)) 1 i)).num) (max (if j = 0 then 0 else j + 1) 1) = j + 1)
    (hZ : ∀ j, j < T → decide (((aQ (cvSQ (wM eza T z0 z1 j) (stpM z0 z1) 2 j) (if j = 0 then 0 else j + 1) (fun _ => ((eza (T - 1 - j) : Int) : Rat)) 1 j)).num = 0) = false)
    (hS : ∀ j i, j < T → i < j + 1 → (aQ (cvSQ (wM eza T z0 z1 j) (stpM z0 z1) 2 j) (if j = 0 then 0 else j + 1) (fun _ => ((eza (T - 1 - j) : Int) : Rat)) 1 i) = wM eza T z0 z1 (j + 1) i)
    (hB3 : ∀ j, j < T - 1 → ∀ i, i < T → Bd (wM eza T z0 z1 T i * (z1 : Rat) ^ j * (qOf z1 (1 : Int))).num.natAbs 80 ∧ Bd (wM eza T z0 z1 T i * (z1 : Rat) ^ j * (qOf z1 (1 : Int))).den 80)
    (hN3 : ∀ j, j < T - 1 → tl (fun i => (wM eza T z0 z1 T i * (z1 : Rat) ^ j * (qOf z1 (1 : Int))).num) T = T)
    (hF : ∀ i, i < T → wM eza T z0 z1 T i * (z1 : Rat) ^ (T - 1) = ((coef M i : Int) : Rat)) : SiteOk (ph (b_path_1 aa xsa eza ma Na a0 a1 xs0 xs1 z0 z1 T M)) Try.prog ⟨5, [.fact 0, .fact 1, .fact 2], [⟨.one (.lit (.cb true)), []⟩], false⟩ := by
  skip
  exact fn_okL ins_path_1 [⟨.one (.lit (.cb true)), []⟩] ss_path_1 Try.func5 (by kernel_rfl)
    (lbase (sCut5 6 3 rfl rfl (fun _ _ h => h) rfl rfl (by omega) (by omega) (by omega) hza hNna)
      (lbase (sKIntR 2 rfl (fun _ _ h => h) rfl rfl hz0)
      (lbase (sKIntR 2 rfl (fun _ _ h => h) rfl rfl hz1)
      (lbase (sMove (z := eza) (n := Na) (K1 := 160) (K2 := 300) (K3 := 400) (kp := 20) (fun _ _ h => Rw.to (sz := 2) (n := Na) (F := (fun ι w v => KI w v (aa ι) ((fun ι => (xsa ι).take 3) ι) (eza ι) 3)) (h) (fun i w v _ h => (fun _ _ _ h => And.right h) i w v h)) iI iI rfl (by omega) (by omega) (by omega) (by omega) (by omega) (by omega) (by omega) (by omega) (by omega) (by omega) hp hm hM)
      (lbase (tFrom iI rfl (by omega) rfl)
      (lbase (tFrom iI rfl (by omega) rfl)
      (lbase (tZero dD (decide_eq_false h0))
      (lbase (tMake dD dD rfl rfl rfl (by omega) rfl)
      (lbase (tOfR (z := 1) (y := 1) rfl rfl rfl (by decide) (by decide) (by decide) (by decide) rfl)
      (lbase (qRowN (sz := 4) (zc := .agg [.nl, .cb false, .nl, .cb false]) (n := 2) (ps := [12, 15]) (F := (fun ι w v => DecQ w v ((stpM z0 z1) ι) 80)) Try.underlying25 (by kernel_rfl) (by omega) (by kernel_rfl) (by omega) (by omega) rfl (rowN2 (sz := 4) (F := (fun ι w v => DecQ w v ((stpM z0 z1) ι) 80)) (fun _ _ h => DecQ.row (DecQ.more (DecQ.eq h hst0) (by omega))) (fun _ _ h => DecQ.row (DecQ.more (DecQ.eq h hst1) (by omega)))) rfl)
      (lbase (qLen (sz := 4) (n := (trimL (mk Na eza)).length) (F := (fun ι w v => DecQ w v ((((coef (trimL (mk Na eza))) ι : Int) : Rat)) (3 + 2 + 2))) Try.underlying25 (fun _ _ h => Rw.arr h) rfl)
      (lbase (qSubK (fun _ _ h => h) (by omega) rfl (by omega) (by omega))
      (lloop (counted T (fun j => ph (b_path_1 aa xsa eza ma Na a0 a1 xs0 xs1 z0 z1 T M ++ l_path_1_1 eza Na z0 z1 T j)) (fun _ => 0) (fun j p hp => ph_app' (show p < (b_path_1 aa xsa eza ma Na a0 a1 xs0 xs1 z0 z1 T M).length from hp)) ⟨fun _ _ h => h.trans (congrArg (Value.int .i64) (by omega)), fun w => Rw.nil 4 (fun ι w v => DecQ w v ((wM eza T z0 z1 0) ι) 80) w, trivial⟩ (fun j hj => by
      have hite : (if j = 0 then 0 else j + 1) ≤ 7 := by split <;> omega
      exact ⟨(r_path_1_1_0, [.from 36, .from 29]), rfl, ⟨fun _ _ h => h.trans (congrArg (Value.int .i64) (by omega)), fun _ _ h => Rw.to (sz := 4) (n := j + 1) (F := fun i w v => DecQ w v ((aQ (cvSQ (wM eza T z0 z1 j) (stpM z0 z1) 2 j) (if j = 0 then 0 else j + 1) (fun _ => ((eza (T - 1 - j) : Int) : Rat)) 1 i)) 80) h fun i w v hi h => DecQ.eq h (hS j i hj hi), trivial⟩, (lbase (qTestC (op := .geq) (fun _ _ h => h) (ts_run (decide_eq_true (by omega)) (by simp)))
      (lbase (sRMulP (q := (wM eza T z0 z1 j)) (r := (stpM z0 z1)) (n := j) (m := 2) (K := 80) (fun _ _ h => h) (fun _ _ h => h) rfl (by omega) (by omega) (by omega) (by omega) (by omega) (by omega) (hB1 j hj) (hN1 j hj))
      (lbase (qIdx (i := (T - 1 - j)) (sz := 4) (n := (trimL (mk Na eza)).length) (F := (fun ι w v => DecQ w v ((((coef (trimL (mk Na eza))) ι : Int) : Rat)) (3 + 2 + 2))) Try.underlying25 (by kernel_rfl) (fun _ _ h => Rw.arr h) (fun _ _ h => h.trans (congrArg (Value.int .i64) (by omega))) (by omega) rfl)
      (lbase (qLoad (sz := 4) (F := fun w v => DecQ w v ((((coef (trimL (mk Na eza))) (T - 1 - j) : Int) : Rat)) (3 + 2 + 2)) (by kernel_rfl) (by kernel_rfl) (fun _ _ h => h) (fun _ _ _ g h => DecQ.kp h g) (fun _ _ h => DecQ.is h) rfl)
      (lbase (qRowN (sz := 4) (zc := .agg [.nl, .cb false, .nl, .cb false]) (n := 1) (ps := [27]) (F := (fun ι w v => DecQ w v ((fun _ => ((eza (T - 1 - j) : Int) : Rat)) ι) 80)) Try.underlying25 (by kernel_rfl) (by omega) (by kernel_rfl) (by omega) (by omega) rfl (rowN1 (sz := 4) (F := (fun ι w v => DecQ w v ((fun _ => ((eza (T - 1 - j) : Int) : Rat)) ι) 80)) (fun _ _ h => DecQ.row (DecQ.more (DecQ.eq h (hL (T - 1 - j) (by omega))) (by omega)))) rfl)
      (lbase (sRAddP (q := (cvSQ (wM eza T z0 z1 j) (stpM z0 z1) 2 j)) (r := (fun _ => ((eza (T - 1 - j) : Int) : Rat))) (n := (if j = 0 then 0 else j + 1)) (m := 1) (K := 80) (fun _ _ h => h) (fun _ _ h => h) rfl (by omega) (by omega) (by omega) (by omega) (by omega) (by omega) (by omega) (hB2 j hj) (hN2 j hj))
      (lbase (qLen (sz := 4) (n := (j + 1)) (F := (fun ι w v => DecQ w v ((aQ (cvSQ (wM eza T z0 z1 j) (stpM z0 z1) 2 j) (if j = 0 then 0 else j + 1) (fun _ => ((eza (T - 1 - j) : Int) : Rat)) 1) ι) 80)) Try.underlying25 (fun _ _ h => Rw.arr h) rfl)
      (lbase (qTestC (op := .gtr) (fun _ _ h => h) (ts_run (decide_eq_true (by omega)) (by simp)))
      (lbase (qLen (sz := 4) (n := (j + 1)) (F := (fun ι w v => DecQ w v ((aQ (cvSQ (wM eza T z0 z1 j) (stpM z0 z1) 2 j) (if j = 0 then 0 else j + 1) (fun _ => ((eza (T - 1 - j) : Int) : Rat)) 1) ι) 80)) Try.underlying25 (fun _ _ h => Rw.arr h) rfl)
      (lbase (qSubK (fun _ _ h => h) (by omega) rfl (by omega) (by omega))
      (lbase (qIdx (i := j) (sz := 4) (n := (j + 1)) (F := (fun ι w v => DecQ w v ((aQ (cvSQ (wM eza T z0 z1 j) (stpM z0 z1) 2 j) (if j = 0 then 0 else j + 1) (fun _ => ((eza (T - 1 - j) : Int) : Rat)) 1) ι) 80)) Try.underlying25 (by kernel_rfl) (fun _ _ h => Rw.arr h) (fun _ _ h => h) (by omega) rfl)
      (lbase (qFld (off := 0) (len := 2) (sz := 4) (F := fun w v => DecQ w v ((aQ (cvSQ (wM eza T z0 z1 j) (stpM z0 z1) 2 j) (if j = 0 then 0 else j + 1) (fun _ => ((eza (T - 1 - j) : Int) : Rat)) 1) j) 80) (G := fun w v => DecI w v (((aQ (cvSQ (wM eza T z0 z1 j) (stpM z0 z1) 2 j) (if j = 0 then 0 else j + 1) (fun _ => ((eza (T - 1 - j) : Int) : Rat)) 1) j).num) 80) (by kernel_rfl) (fun _ _ h => h) (by omega) (fun _ _ h => DecQ.fst' h) rfl)
      (lbase (qLoad (sz := 2) (F := fun w v => DecI w v (((aQ (cvSQ (wM eza T z0 z1 j) (stpM z0 z1) 2 j) (if j = 0 then 0 else j + 1) (fun _ => ((eza (T - 1 - j) : Int) : Rat)) 1) j).num) 80) (by kernel_rfl) (by kernel_rfl) (fun _ _ h => h) (fun _ _ _ g h => DecI.kp h g) (fun _ _ h => DecI.is h) rfl)
      (lbase (tZero dD (hZ j hj))
      (lbase (qSubK (fun _ _ h => h) (rfl) rfl (by omega) (by omega))
      lnil)))))))))))))))⟩)
      (lbase (qTestC (op := .geq) (fun _ _ h => h) (ts_run (decide_eq_false (by omega)) (by simp)))
      lnil)
      (fun q hq w v h => by
        simp only [d_path_1_1, List.mem_cons, List.not_mem_nil, or_false] at hq
        rcases hq with rfl
        · exact (fun h => h) h)) (lloop (counted (T - 1) (fun j => ph (b_path_1 aa xsa eza ma Na a0 a1 xs0 xs1 z0 z1 T M ++ l_path_1_2 eza Na z0 z1 T j)) (fun _ => 0) (fun j p hp => ph_app' (show p < (b_path_1 aa xsa eza ma Na a0 a1 xs0 xs1 z0 z1 T M).length from hp)) ⟨fun _ => rfl, fun _ _ h => Rw.to (sz := 4) (n := T) (F := (fun ι w v => DecQ w v ((wM eza T z0 z1 T) ι) 80)) h fun i w v hi h => DecQ.eq h (by show _ = wM eza T z0 z1 T i * (z1 : Rat) ^ 0; rw [Rat.pow_zero, Rat.mul_one]), trivial⟩ (fun j hj => by
      skip
      exact ⟨(r_path_1_2_0, [.from 31, .from 30]), rfl, ⟨fun _ _ h => h, fun _ _ h => Rw.to (sz := 4) (n := T) (F := fun i w v => DecQ w v (wM eza T z0 z1 T i * (z1 : Rat) ^ j * qOf z1 (1 : Int)) 80) h fun i w v hi h => DecQ.eq h (scale_pow _ _ _), trivial⟩, (lbase (qLen (sz := 4) (n := (trimL (mk Na eza)).length) (F := (fun ι w v => DecQ w v ((((coef (trimL (mk Na eza))) ι : Int) : Rat)) (3 + 2 + 2))) Try.underlying25 (fun _ _ h => Rw.arr h) rfl)
      (lbase (qTest (op := .lss) (fun _ _ h => h) (fun _ _ h => h) (ts_run (decide_eq_true (by omega)) (by simp)))
      (lbase (tOf (z := 1) rfl (by decide) (by decide) rfl)
      (lbase (tMake dD dD rfl rfl rfl (by omega) rfl)
      (lbase (sRScaleP (q := (fun i => wM eza T z0 z1 T i * (z1 : Rat) ^ j)) (c := qOf z1 (1 : Int)) (n := T) (K := 80) (fun _ _ h => h) tS rfl (by omega) (by omega) (by omega) (by omega) (hB3 j hj) (hN3 j hj))
      (lbase (qAddK (fun _ _ h => h) (by omega) rfl (by omega) (by omega))
      lnil))))))⟩)
      (lbase (qLen (sz := 4) (n := (trimL (mk Na eza)).length) (F := (fun ι w v => DecQ w v ((((coef (trimL (mk Na eza))) ι : Int) : Rat)) (3 + 2 + 2))) Try.underlying25 (fun _ _ h => Rw.arr h) rfl)
      (lbase (qTest (op := .lss) (fun _ _ h => h) (fun _ _ h => h) (ts_run (decide_eq_false (by omega)) (by simp)))
      lnil))
      (fun q hq w v h => by
        simp only [d_path_1_2, List.mem_cons, List.not_mem_nil, or_false] at hq
        rcases hq with rfl
        · exact (fun h => h) h)) (lbase (sIsP (z := (coef M)) (n := T) (k := 400) (kq := 80) (fun _ _ h => Rw.to (sz := 4) (n := T) (F := (fun ι w v => DecQ w v ((fun i => wM eza T z0 z1 T i * (z1 : Rat) ^ (T - 1)) ι) 80)) h fun i w v hi h => DecQ.eq h (hF i hi)) (fun _ _ h => Rw.len (Rw.to (sz := 2) (n := M.length) (F := (fun ι w v => NorV w v ((coef M) ι) 400)) h fun i w v _ h => h) (hT)) (by omega) (by omega) (by omega))
      (lbase (sWakes5)
      lnil))))))))))))))))
    (ins_ok [.fact 0 (.one (.s)), .fact 1 (.agg [.b, .s]), .fact 2 (.agg [.b, .s])] ⟨fun _ _ h => Rw.is (sz := 2) (F := (fun ι w v => RawI w v (aa ι) (xsa ι))) (n := ma) h, fun _ _ h => RawI.is h, fun _ _ h => RawI.is h, trivial⟩) (fun _ _ _ h => h)

theorem walk {ma : Nat} {aa : Nat → Bool} {xsa : Nat → List Nat} {w : World} {va s0 s1 : Value} {b0 b1 : Bool} {ys0 ys1 : List Nat} (hna : ma ≤ 9223372036854775807) (hla : Rw 2 (fun i w v => RawI w v (aa i) (xsa i)) ma w va) (hx0 : Sl w .u32 s0 ys0) (ax0 : All 4294967296 ys0) (hx1 : Sl w .u32 s1 ys1) (ax1 : All 4294967296 ys1) : Calls Try.prog 5 #[va, .agg #[.bool b0, s0], .agg #[.bool b1, s1]] w (Bool_ w true) := by
  obtain ⟨eza, hza⟩ : ∃ ez : Nat → Int, ∀ j, sg (aa j) (Proofs.Ytigkehblnlghkaa.val 4294967296 ((xsa j).take 3)) = ez j := ⟨_, fun _ => rfl⟩
  obtain ⟨Na, hNna⟩ : ∃ N, min ma 6 = N := ⟨_, rfl⟩
  obtain ⟨z0, hz0⟩ : ∃ z, sg b0 (Proofs.Ytigkehblnlghkaa.val 4294967296 (ys0.take 2)) = z := ⟨_, rfl⟩
  obtain ⟨z1, hz1⟩ : ∃ z, sg b1 (Proofs.Ytigkehblnlghkaa.val 4294967296 (ys1.take 2)) = z := ⟨_, rfl⟩
  obtain ⟨T, hT⟩ : ∃ T, T = tl eza Na := ⟨_, rfl⟩
  have hle := tl_le eza Na
  have hba : ∀ i, i < Na → Bd (eza i).natAbs 3 := fun i hi => by
    obtain ⟨p, c, rfl, _, h1⟩ := hla
    obtain ⟨_, _, _, l, _, _, s, _, _, h2⟩ := h1 i (by omega)
    rw [← hza i, sg_abs]
    exact Bd.row _ h2 3
  have hu : Bd z0.natAbs 2 := by rw [← hz0, sg_abs]; exact Bd.row _ ax0 2
  have hv : Bd z1.natAbs 2 := by rw [← hz1, sg_abs]; exact Bd.row _ ax1 2
  have hargs : ∀ Φ : Nat → World → Value → Prop, Φ 0 = (fun w v => Rw 2 (fun i w v => RawI w v (aa i) (xsa i)) ma w v) → Φ 1 = (fun w v => RawI w v b0 ys0) → Φ 2 = (fun w v => RawI w v b1 ys1) → argsOk Φ (fun _ => False) w [.fact 0, .fact 1, .fact 2] [va, .agg #[.bool b0, s0], .agg #[.bool b1, s1]] := fun Φ h0 h1 h2 => ⟨arg_poly hla h0, arg_kp h1 (fun _ _ _ g h => RawI.kp h g) ⟨_, rfl, hx0, ax0⟩, arg_kp h2 (fun _ _ _ g h => RawI.kp h g) ⟨_, rfl, hx1, ax1⟩, trivial⟩
  by_cases hd : z1 = 0
  · exact law_true (path_0 hna hza hNna hz0 hz1 hd) (vs := [va, .agg #[.bool b0, s0], .agg #[.bool b1, s1]]) (hargs _ rfl rfl rfl)
  have hpj : ∀ j, j ≤ 6 → Bd (z1 ^ j).natAbs 20 := fun j hj => by
    rw [Int.natAbs_pow]
    exact (Bd.pow1 hv j).more (by omega)
  have hc : 0 < T → eza (T - 1) ≠ 0 := fun h => hT ▸ tl_last eza Na (hT ▸ h)
  have hg : ∀ j, j ≤ T → 0 < T → ∀ i, Bd (gM eza T z0 z1 j i).natAbs 60 := fun j hj h0 i => by
    refine (gM_bd (fun i hi => hba i (by omega)) h0 hu hv j hj i).more ?_
    have h2 : j * (2 + T + 1) ≤ 6 * (2 + 6 + 1) := Nat.mul_le_mul (by omega) (by omega)
    omega
  have hw : ∀ j, j < T → ∀ i, i < j + 1 → Bd (wM eza T z0 z1 (j + 1) i).num.natAbs 80 ∧ Bd (wM eza T z0 z1 (j + 1) i).den 80 := fun j hj i _ =>
    divInt_bd (Int.pow_ne_zero hd) ((hg (j + 1) (by omega) (by omega) i).more (by omega)) ((hpj (j + 1 - 1) (by omega)).more (by omega))
  have hmx : ∀ j : Nat, max (if j = 0 then 0 else j + 1) 1 = j + 1 := fun j => by split <;> omega
  have hne : ∀ j, j < T → wM eza T z0 z1 (j + 1) j ≠ 0 := fun j hj h => by
    have h1 := (divInt_num (Int.pow_ne_zero hd)).1 (congrArg Rat.num h)
    exact gM_ne (by omega) (hc (by omega)) hd j h1
  have hend : ∀ i, i < T → wM eza T z0 z1 T i * (z1 : Rat) ^ (T - 1) = ((coef (mvL eza Na z0 z1) i : Int) : Rat) := fun i hi => by
    rw [wM_end hd, gM_mvL hT (by omega) hd i hi]
  refine law_true (path_1 (M := mvL eza Na z0 z1) (T := T) hna hza hNna hz0 hz1 hd (by rw [trimL_mk, hT]) (by omega) (by rw [mvL_length, hT]) (fun j hj => hpj j (by omega)) ?_ rfl (st_0 hd) (st_1 hd) (fun i hi => ?_) ?_ (fun j hj => wM_len (by omega) (hc (by omega)) hd j) (fun j hj i hi => ?_) (fun j hj => ?_) (fun j hj => ?_) (fun j i hj hi => wM_step hd j i hi) (fun j hj i hi => ?_) (fun j hj => ?_) hend) (vs := [va, .agg #[.bool b0, s0], .agg #[.bool b1, s1]]) (hargs _ rfl rfl rfl)
  · intro j b hj hb
    have h1 := mvS_bd (u := z0) (fun i hi => hba i (by omega)) hv hu j b hb
    have h2 : j * (tl eza Na * (2 + 1)) ≤ 6 * (6 * (2 + 1)) := Nat.mul_le_mul (by omega) (Nat.mul_le_mul_right _ (by omega))
    exact h1.more (by omega)
  · rw [coef_trim, coef_mk, if_pos (by omega)]
  · intro j hj a b p ha hb
    have h0 : (cvIQ (wM eza T z0 z1 j) (stpM z0 z1) 2 a b p) = Rat.divInt (cvI (gM eza T z0 z1 j) (sI z0 z1) 2 a b p) (z1 ^ (j - 1) * z1) := cvIQ_div (Int.pow_ne_zero hd) hd
    rw [h0]
    refine divInt_bd (Int.mul_ne_zero (Int.pow_ne_zero hd) hd) ((cvI_bd (c := 6) (n := j) (l := 2) (fun i _ => hg j (by omega) (by omega) i) (fun i _ => sI_bd hu hv i) ha (by omega) hb p).more (by omega)) ?_
    rw [Int.natAbs_mul]
    exact (Bd.mul (hpj (j - 1) (by omega)) hv).more (by omega)
  · rw [hmx] at hi
    rw [wM_step hd j i hi]
    exact hw j hj i hi
  · rw [hmx]
    refine tl_top ?_
    rw [wM_step hd j j (by omega), ne_eq, Rat.num_eq_zero]
    exact hne j hj
  · rw [wM_step hd j j (by omega)]
    exact decide_eq_false fun h => hne j hj (Rat.num_eq_zero.1 h)
  · rw [scale_pow, wM_pow]
    refine divInt_bd (Int.pow_ne_zero hd) ?_ ((hpj (T - 1) (by omega)).more (by omega))
    rw [Int.natAbs_mul]
    exact (Bd.mul (hg T (by omega) (by omega) i) (hpj (j + 1) (by omega))).more (by omega)
  · obtain ⟨t, rfl⟩ : ∃ t, T = t + 1 := ⟨T - 1, by omega⟩
    refine tl_top ?_
    rw [scale_pow, ne_eq, Rat.num_eq_zero]
    intro h
    rcases Rat.mul_eq_zero.1 h with h | h
    · exact hne t (by omega) h
    · exact rpow_ne (by exact_mod_cast hd) _ h
set_option maxRecDepth 100000 in
theorem lifted (os : Os) (started : os.Started) (H : Type) (enc : TypeId × Value → H) :
    ReturnsInHanded {} Try.checked os 5 .any (Rows.polyMovesSpec.pre6 enc Try.prog Try.f5 Rows.polyMovesRow.domain false) (Rows.polyMovesSpec.post enc Try.prog Try.f5 false true false false) := by
  refine returnsInHanded_of_change (C := Try.checked) Try.own started (by kernel_rfl) Try.func5
    (ChangeSpec.witness6 (enc := enc) (C := Try.checked) false ⟨#[], #[.slice none 0 0, .agg #[.bool false, .slice none 0 0], .agg #[.bool false, .slice none 0 0]], []⟩ 8 (by kernel_rfl) (by kernel_rfl) (by kernel_rfl) (by kernel_rfl)) ?_
  intro W base args ds gs before hval0 hW _ _
  have hval : ∀ (j : Nat) t v, Try.f5.params[j]? = some t → args[j]? = some v → Value.okWide Try.prog W .any base t v := hval0
  obtain ⟨p, q, hA0, hV, rfl, _, _⟩ := id hW
  have hA : DataW.TrodAll enc Try.prog W 0 (fun _ => true) true Try.f5.params.toList args.toList ds p := hA0
  rw [Try.params5] at hA hval
  obtain ⟨v0, vs0, d0, ds0, p0, q0, hargs, rfl, rfl, h0, r0⟩ := trodAll_cons hA
  obtain ⟨v1, vs1, d1, ds1, p1, q1, rfl, rfl, rfl, h1, r1⟩ := trodAll_cons r0
  obtain ⟨v2, vs2, d2, ds2, p2, q2, rfl, rfl, rfl, h2, r2⟩ := trodAll_cons r1
  obtain ⟨rfl, rfl, rfl⟩ := trodAll_nil r2
  obtain rfl : args = #[v0, v1, v2] := by cases args; simp_all
  obtain ⟨n0, a0, xs0, l0, s0⟩ := poly_of_trod h0 (hval 0 23 v0 rfl rfl)
  obtain ⟨b1, w1, xs1, rfl, s1, a1⟩ := int_of_trod h1 (hval 1 36 v1 rfl rfl)
  obtain ⟨b2, w2, xs2, rfl, s2, a2⟩ := int_of_trod h2 (hval 2 36 v2 rfl rfl)
  refine (walk l0 s0 s1 a1 s2 a2).mono fun e W' ⟨he, hg⟩ => ?_
  subst he
  refine ⟨_, rfl, law_post Try.laidOut rfl (by kernel_rfl) Try.underlying4 ?_ ?_ hW hg⟩
  · rw [Try.params5]; decide +kernel
  · rw [Try.params5]
    intro ds h
    match ds, h with
    | [_, _, _], _ => rfl

theorem holds : Rows.PolyMovesSaid :=
  OpenClaim.holds_of_wide 5 Try.f5 rfl rfl rfl rfl rfl rfl rfl ⟨rfl, rfl, rfl, rfl, rfl⟩ rfl rfl rfl rfl rfl (by kernel_rfl) Try.func5 (by kernel_rfl)
    (of_decide_eq_true (by kernel_rfl)) (by unfold Func.isWrapper; first | (rw [if_pos (by decide +kernel)]; kernel_rfl) | (rw [if_neg (by decide +kernel)]; exact ⟨rfl, rfl⟩))
    (fun os started H enc _ => lifted os started H enc)

end Go.Proofs.Ytigkehblnlghkaa.pmoves
