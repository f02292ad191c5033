/- PdivContents holds: for every two polynomials and every number the law returns true and leaves them as they were. No condition. -/
import Derived.Test.YtigkehblnlghkaaGreatDivW
import Derived.Test.YtigkehblnlghkaaGreatDivX
import Derived.Test.YtigkehblnlghkaaGreatPolQ
namespace Go.Proofs.YtigkehblnlghkaaGreat.vcontents
open Go.ChangeShapes Go.WideShapes Go.ChangeAt Go.RowKit
open Go.Proofs.YtigkehblnlghkaaGreat.Sym hiding val run start

section
variable {Φ : Nat → World → Value → Prop} {p q x n m k : Nat} {z y : Nat → Int} {a : Bool} {xs : List Nat}
theorem RawI.b1 {w : World} {v : Value} (h : RawI w v a xs) : subV 0 1 v = .bool a := by obtain ⟨s, rfl, -⟩ := h; rfl
theorem RawI.len {w : World} {v : Value} (h : RawI w v a xs) : LenS xs.length w (subV 1 1 v) := by
  obtain ⟨s, rfl, ⟨p, c, rfl, -⟩, -⟩ := h
  exact ⟨_, _, rfl⟩
theorem deriveRaw (h1 : ∀ w v, Φ p w v → v = .bool a) (h2 : ∀ w v, Φ q w v → SlA w v xs) (hx : Φ x = fun w v => RawI w v a xs) (X : Nat → Prop) (w : World) (v : Value) (h : (Arg.parts (.agg [.b, .s]) [(0, 1, p), (1, 1, q)]).ok Φ X w v) : (Arg.fact x).ok Φ X w v := fun w1 hw => by
  rw [hx]
  obtain ⟨⟨us, rfl, hu⟩, hf⟩ := h
  match us, hu with
  | [v0, v1], hu =>
    have e0 : v0 = .bool a := h1 _ _ (hf (0, 1, p) (by simp) w1 hw)
    have e1 : SlA w1 v1 xs := h2 _ _ (hf (1, 1, q) (by simp) w1 hw)
    subst e0
    exact ⟨v1, rfl, e1.1, e1.2⟩
theorem SlA.take {w : World} {p : Option Addr} {n c m : Nat} (h : SlA w (.slice p n c) xs) (hm : m ≤ xs.length) : SlA w (.slice p m c) (xs.take m) := by
  obtain ⟨⟨p', c', e, h1, h2, h3⟩, h4⟩ := h
  simp only [Value.slice.injEq] at e
  obtain ⟨rfl, -, rfl⟩ := e
  have hl : (xs.take m).length = m := by rw [List.length_take]; omega
  refine ⟨⟨p, c, by rw [hl], by omega, h2, ?_⟩, fun x hx => h4 x (List.mem_of_mem_take hx)⟩
  rcases Nat.eq_zero_or_pos m with h0 | h0
  · subst h0; exact .inl rfl
  · rcases h3 with h3 | ⟨b, off, h5, h6, h7⟩
    · rw [h3] at hm; simp at hm; omega
    · refine .inr ⟨b, off, h5, h6, fun j hj => ?_⟩
      rw [hl] at hj
      have := h7 j (by omega)
      rw [this]
      unfold nth
      simp [List.getD_eq_getElem?_getD, hj]
theorem qToL {P : Program} {T e : TypeId} {sz m : Nat} (hT : P.underlying T = some (.slice e)) (hz : sizeAt P e = some sz) (hp : ∀ w v, Φ p w v → SlA w v xs) (hm' : m ≤ xs.length) (hx : Φ x = fun w v => SlA w v (xs.take m)) : SiteOk Φ P ⟨0, [.fact p, .lit (.ci .i64 (m : Int))], [⟨.one .s, [(0, 0, x)]⟩], .quiet (mTo' T)⟩ := fun X w ac o xs' _ hm ha => by
  unfold mTo' at hm
  split at hm
  case h_2 => cases hm
  rename_i t y z ho
  split at hm
  case isFalse => cases hm
  rename_i ht
  subst ht
  simp only [Option.some.injEq] at hm
  subst hm
  have h0 := hp _ _ (ha.1 w (Off.refl _ _))
  obtain ⟨⟨s, c, hv, hc, -⟩, -⟩ := id h0
  have hi2 : _ = Value.int .i64 (m : Int) := ha.2.1
  refine ⟨.slice s m c, w, ?_, grown_refl w none, ⟨⟨⟨⟨_, _, _, rfl⟩, fun _ h => by cases h⟩, fun r hr w1 hw => ?_⟩, trivial⟩⟩
  · unfold execOp
    have h0 : (0 : Int) ≤ (m : Int) := Int.natCast_nonneg m
    have h1 : (m : Int) ≤ (c : Int) := by omega
    have ha0 : (s.map fun y => y.add 0) = s := by cases s <;> simp [Addr.add_zero']
    simp only [ho, Option.map_none, Option.map_some, hv, hi2]
    simp [Instr.sliceAt, Instr.slice, run_underlying hT, Instr.sliceBounds, run_sliceBound (P := P) w .i64 (m : Int) c .sliceAcap h0 h1, Sym.run_sizeOf hz, ha0]
  · simp only [List.mem_singleton] at hr; subst hr
    show Φ x w1 _
    rw [hx]
    have h1 := hp _ _ (ha.1 w1 hw)
    rw [hv] at h1
    exact SlA.take h1 hm'
def sel2 {α : Type} (a b : α) : Nat → α
  | 0 => a
  | _ + 1 => b
theorem qRowP2 {J : List Nat} (h0 : ∀ w v, Φ p w v → Rw 2 (fun i w v => IntV w v (z i) k) n w v) (h1 : ∀ w v, Φ q w v → Rw 2 (fun i w v => IntV w v (y i) k) m w v) (hx : Φ x = fun w v => Rw 1 (PRow (sel2 z y) (sel2 n m) k) 2 w v) : SiteOk Φ Tryz.prog ⟨0, [.any, .fact p, .fact q], [⟨.one .s, [(0, 0, x)]⟩], .fresh J (mRow 112 2)⟩ :=
  qRowN (ps := [p, q]) (sz := 1) (zc := .one .nl) Tryz.underlying112 (by kernel_rfl) (by omega) (by kernel_rfl) (by omega) (by omega) rfl (fun i r h w v hv => by
    match i, h with
    | 0, h =>
      obtain rfl := Option.some.inj h
      have := rw_cells (h0 w v hv)
      rw [this]
      exact ⟨rfl, v, rfl, h0 w v hv⟩
    | 1, h =>
      obtain rfl := Option.some.inj h
      have := rw_cells (h1 w v hv)
      rw [this]
      exact ⟨rfl, v, rfl, h1 w v hv⟩
    | i + 2, h => simp at h) hx
theorem sContent0 (hx : Φ x = fun w v => NorV w v 0 0) : SiteOk Φ Tryz.prog ⟨34, [.lit .nl], [⟨iS, [(0, 0, x)]⟩], false⟩ := fun X w vs hX ha => by
  match vs, ha with
  | [v], ha =>
    obtain rfl : v = .slice none 0 0 := ha.1
    refine ((sContent (Φ := ph [fun w v => Rw 1 (PRow (fun _ _ => 0) (fun _ => 0) 0) 0 w v, fun w v => NorV w v 0 0]) (p := 0) (x := 1) (zz := fun _ _ => 0) (ln := fun _ => 0) (n := 0) (k := 0) (fun _ _ h => h) rfl (by omega) (by omega) (fun j hj => by rw [Nat.le_zero.1 hj]; exact Nat.zero_le _)) X w [.slice none 0 0] hX ⟨fun w1 _ => Rw.nil _ _ _, trivial⟩).mono fun e w' ⟨hg, us, he, ho⟩ => ⟨hg, us, he, ?_⟩
    match us, ho with
    | [u], ho => exact one_out ho.1.1 hx fun w1 hw => ho.1.2 (0, 0, 1) (List.mem_singleton.2 rfl) w1 hw
end
/-- The gcd of g and the first n numbers. -/
def gcdF (g : Nat) (z : Nat → Int) : Nat → Nat
  | 0 => g
  | n + 1 => Nat.gcd (gcdF g z n) (z n).natAbs
theorem gcdF_cat (L : List Int) (z : Nat → Int) (m : Nat) : ∀ n, n ≤ m → gcdZ (coef (L ++ mk m z)) (L.length + n) = gcdF (gcdZ (coef L) L.length) z n
  | 0, _ => gcdZ_congr fun i hi => by
    unfold coef
    rw [List.getD_eq_getElem?_getD, List.getD_eq_getElem?_getD, List.getElem?_append_left hi]
  | n + 1, h => by
    have e : coef (L ++ mk m z) (L.length + n) = z n := by
      have := coef_mk m z n
      rw [if_pos (by omega)] at this
      rw [← this]
      unfold coef
      rw [List.getD_eq_getElem?_getD, List.getD_eq_getElem?_getD, List.getElem?_append_right (by omega), Nat.add_sub_cancel_left]
    rw [← Nat.add_assoc, gcdZ, gcdF_cat L z m n (by omega), e, gcdF]
theorem tl_trim (L : List Int) : tl (coef (trimL L)) (trimL L).length = (trimL L).length := by
  have h := trimL_of (trimL_nrm L)
  have h2 := congrArg List.length h
  rw [trimL_length] at h2
  exact h2
theorem gcdF_congr {g : Nat} {z y : Nat → Int} : ∀ {n : Nat}, (∀ i, i < n → z i = y i) → gcdF g z n = gcdF g y n
  | 0, _ => rfl
  | n + 1, h => by rw [gcdF, gcdF, gcdF_congr fun i hi => h i (by omega), h n (by omega)]
theorem gcdF_tl (g : Nat) (z : Nat → Int) : ∀ n, gcdF g z n = gcdF g z (tl z n)
  | 0 => rfl
  | n + 1 => by
    unfold tl
    split
    · rename_i h
      rw [gcdF, h, ← gcdF_tl g z n]; exact Nat.gcd_zero_right _
    · rfl
def b_path_0 (aa ab : Nat → Bool) (xsa xsb : Nat → List Nat) (eza ezb : Nat → Int) (ma mb Na Nb : Nat) (ac : Bool) (xc : List Nat) (cz : Int) (X P : List Int) : List (World → Value → Prop) := [fun w v => Rw 2 (fun ι w v => RawI w v (aa ι) (xsa ι)) ma w v, fun w v => Rw 2 (fun ι w v => RawI w v (ab ι) (xsb ι)) mb w v, fun w v => RawI w v ac xc, fun _ v => v = .bool ac, fun w v => SlA w v xc, LenS xc.length, fun w v => Rw 2 (fun ι w v => KI w v (aa ι) ((fun ι => (xsa ι).take 3) ι) (eza ι) 3) Na w v, fun w v => Rw 4 (fun ι w v => DecQ w v ((((coef (trimL (mk Na eza))) ι : Int) : Rat)) (3 + 2 + 2)) ((trimL (mk Na eza)).length) w v, fun w v => Rw 2 (fun ι w v => KI w v (ab ι) ((fun ι => (xsb ι).take 3) ι) (ezb ι) 3) Nb w v, fun w v => Rw 4 (fun ι w v => DecQ w v ((((coef (trimL (mk Nb ezb))) ι : Int) : Rat)) (3 + 2 + 2)) ((trimL (mk Nb ezb)).length) w v, fun _ v => v = .int .i64 ((xc.length : Nat) : Int), fun w v => DecI w v cz 2, fun w v => DecI w v (1 : Int) 2, fun w v => DecQ w v ((cz : Int) : Rat) (2 + 2 + 2), fun w v => DecI w v (((cz : Int) : Rat).num) (2 + 2 + 2), fun w v => DecI w v (((cz : Int) : Rat).den : Int) (2 + 2 + 2), fun w v => Rw 4 (fun ι w v => DecQ w v ((((coef X) ι : Int) : Rat)) 5) X.length w v, fun w v => Rw 2 (fun ι w v => NorV w v ((coef X) ι) 5) X.length w v, fun w v => DecI w v (0 : Int) 2, fun _ v => v = .int .i64 ((X.length : Nat) : Int), fun w v => DecI w v (gcdZ (coef X) X.length : Int) 7, fun _ v => v = .int .i64 (((trimL (mk Nb ezb)).length : Nat) : Int), fun w v => DecI w v (gcdF (gcdZ (coef X) X.length) (coef (trimL (mk Nb ezb))) (trimL (mk Nb ezb)).length : Int) 7, fun w v => NorV w v (pcon (coef X) X.length) 5, fun w v => Rw 2 (fun ι w v => NorV w v ((coef P) ι) 5) P.length w v, fun w v => DecQ w v ((pcon (coef X) X.length : Int) : Rat) (5 + 2 + 2), fun w v => DecI w v (((pcon (coef X) X.length : Int) : Rat).num) (5 + 2 + 2), fun w v => DecI w v (((pcon (coef X) X.length : Int) : Rat).den : Int) (5 + 2 + 2), fun w v => Rw 4 (fun ι w v => DecQ w v ((((coef P) ι : Int) : Rat)) 5) P.length w v, fun w v => Rw 1 (PRow (fun _ => (coef X)) (fun _ => X.length) 5) 1 w v, fun w v => NorV w v (gcdZ (coef X) X.length : Int) 5, fun w v => Rw 1 (PRow (sel2 (coef X) ezb) (sel2 X.length Nb) 5) 2 w v, fun w v => NorV w v (gcdZ (coef (catL (sel2 (coef X) ezb) (sel2 X.length Nb) 2)) (catL (sel2 (coef X) ezb) (sel2 X.length Nb) 2).length : Int) 5, fun w v => NorV w v (0 : Int) 0]
def l_path_0_2 (ezb : Nat → Int) (Nb : Nat) (X : List Int) (i : Nat) : List (World → Value → Prop) := [fun _ v => v = .int .i64 ((i : Nat) : Int), fun w v => DecI w v (gcdF (gcdZ (coef X) X.length) (coef (trimL (mk Nb ezb))) i : Int) 7, fun w v => Ptr 4 (fun w v => DecQ w v ((((coef (trimL (mk Nb ezb))) i : Int) : Rat)) (3 + 2 + 2)) w v, fun w v => Ptr 2 (fun w v => DecI w v (((((coef (trimL (mk Nb ezb))) i : Int) : Rat)).num) (3 + 2 + 2)) w v, fun w v => DecI w v (((((coef (trimL (mk Nb ezb))) i : Int) : Rat)).num) (3 + 2 + 2), fun w v => DecI w v (Int.gcd (gcdF (gcdZ (coef X) X.length) (coef (trimL (mk Nb ezb))) i : Int) (((((coef (trimL (mk Nb ezb))) i : Int) : Rat)).num) : Int) 7, fun _ v => v = .int .i64 (((i + 1) : Nat) : Int)]
def d_path_0_2 : LoopD := ⟨[0, 1, 2, 5, 6, 7, 8, 9, 11, 17, 18, 19, 20, 21, 22, 23, 24, 25, 26, 27, 28, 29, 30, 35, 36, 37, 38, 39, 40, 41, 42, 43, 44, 45, 46, 47, 57, 58, 59], [(.slot 60, .i), (.cell 40 0, .s), (.cell 40 1, .b)], [(.one 0, 34), (.agg [1, 2], 35)], [.closed (.one (.ci .i64 0)), .from 20], 34, [(35, 22)]⟩
def r_path_0_2_0 : List Step := [.base ⟨0, [.fact 34, .fact 21], [⟨.one (.lit (.cb true)), []⟩], .quiet (mBin .lss)⟩,
      .base ⟨0, [.fact 9, .fact 34], [⟨.one (.p), [(0, 0, 36)]⟩], .quiet (mIdx 30)⟩,
      .base ⟨0, [.fact 36], [⟨.one (.p), [(0, 0, 37)]⟩], .quiet (mFld 53 0)⟩,
      .base ⟨0, [.fact 37], [⟨.agg [.s, .b], [(0, 0, 38)]⟩], .quiet (mLoad 51)⟩,
      .base ⟨30, [.fact 35, .fact 38], [⟨.agg [.s, .b], [(0, 0, 39)]⟩], false⟩,
      .base ⟨0, [.fact 34, .lit (.ci .i64 1)], [⟨.one (.i), [(0, 0, 40)]⟩], .quiet (mBin .add)⟩]
def o_path_0_2 : List Step := [.base ⟨0, [.fact 34, .fact 21], [⟨.one (.lit (.cb false)), []⟩], .quiet (mBin .lss)⟩]
def l_path_0_1 (X : List Int) (j : Nat) : List (World → Value → Prop) := [fun _ v => v = .int .i64 ((j : Nat) : Int), fun w v => DecI w v (gcdZ (coef X) j : Int) 7, fun w v => Ptr 4 (fun w v => DecQ w v ((((coef X) j : Int) : Rat)) 5) w v, fun w v => Ptr 2 (fun w v => DecI w v (((((coef X) j : Int) : Rat)).num) 5) w v, fun w v => DecI w v (((((coef X) j : Int) : Rat)).num) 5, fun w v => DecI w v (Int.gcd (gcdZ (coef X) j : Int) (((((coef X) j : Int) : Rat)).num) : Int) 7, fun _ v => v = .int .i64 (((j + 1) : Nat) : Int)]
def d_path_0_1 : LoopD := ⟨[0, 1, 2, 5, 6, 7, 8, 9, 17, 18, 19, 20, 21, 22, 23, 24, 25, 26, 27, 28, 29, 30, 35, 36, 37, 38, 39, 40, 41, 42, 43, 44, 45], [(.slot 46, .i), (.cell 32 0, .s), (.cell 32 1, .b)], [(.one 0, 34), (.agg [1, 2], 35)], [.closed (.one (.ci .i64 0)), .from 18], 34, [(35, 20)]⟩
def r_path_0_1_0 : List Step := [.base ⟨0, [.fact 34, .fact 19], [⟨.one (.lit (.cb true)), []⟩], .quiet (mBin .lss)⟩,
      .base ⟨0, [.fact 16, .fact 34], [⟨.one (.p), [(0, 0, 36)]⟩], .quiet (mIdx 30)⟩,
      .base ⟨0, [.fact 36], [⟨.one (.p), [(0, 0, 37)]⟩], .quiet (mFld 53 0)⟩,
      .base ⟨0, [.fact 37], [⟨.agg [.s, .b], [(0, 0, 38)]⟩], .quiet (mLoad 51)⟩,
      .base ⟨30, [.fact 35, .fact 38], [⟨.agg [.s, .b], [(0, 0, 39)]⟩], false⟩,
      .base ⟨0, [.fact 34, .lit (.ci .i64 1)], [⟨.one (.i), [(0, 0, 40)]⟩], .quiet (mBin .add)⟩]
def o_path_0_1 : List Step := [.base ⟨0, [.fact 34, .fact 19], [⟨.one (.lit (.cb false)), []⟩], .quiet (mBin .lss)⟩]
def ss_path_0 : List Step := [.base ⟨11, [.fact 0, .lit (.ci .i64 8), .lit (.ci .i64 3)], [⟨.one (.s), [(0, 0, 6)]⟩, ⟨.one (.s), [(0, 0, 7)]⟩], true⟩,
      .base ⟨11, [.fact 1, .lit (.ci .i64 8), .lit (.ci .i64 3)], [⟨.one (.s), [(0, 0, 8)]⟩, ⟨.one (.s), [(0, 0, 9)]⟩], true⟩,
      .base ⟨0, [.fact 5], [⟨.one (.i), [(0, 0, 10)]⟩], .quiet (mLen 24)⟩,
      .base ⟨0, [.fact 10, .lit (.ci .i64 2)], [⟨.one (.lit (.cb false)), []⟩], .quiet (mBin .gtr)⟩,
      .base ⟨27, [.fact 2], [⟨.agg [.s, .b], [(0, 0, 11)]⟩], false⟩,
      .base ⟨28, [.lit (.ci .i64 1)], [⟨.agg [.s, .b], [(0, 0, 12)]⟩], false⟩,
      .base ⟨26, [.fact 11, .fact 12], [⟨.agg [.s, .b, .s, .b], [(0, 0, 13), (0, 2, 14), (2, 2, 15)]⟩], false⟩,
      .base ⟨25, [.fact 7, .fact 13], [⟨.one (.s), [(0, 0, 16)]⟩], false⟩,
      .base ⟨29, [.fact 16], [⟨.one (.s), [(0, 0, 17)]⟩], false⟩,
      .base ⟨28, [.lit (.ci .i64 0)], [⟨.agg [.s, .b], [(0, 0, 18)]⟩], false⟩,
      .base ⟨0, [.fact 16], [⟨.one (.i), [(0, 0, 19)]⟩], .quiet (mLen 30)⟩,
      .loop d_path_0_1 [(r_path_0_1_0, [.from 40, .from 39])] o_path_0_1,
      .base ⟨0, [.fact 9], [⟨.one (.i), [(0, 0, 21)]⟩], .quiet (mLen 30)⟩,
      .loop d_path_0_2 [(r_path_0_2_0, [.from 40, .from 39])] o_path_0_2,
      .base ⟨31, [.fact 17], [⟨.agg [.b, .s], [(0, 0, 23)]⟩, ⟨.one (.s), [(0, 0, 24)]⟩], true⟩,
      .base ⟨32, [.fact 16], [⟨.agg [.s, .b, .s, .b], [(0, 0, 25), (0, 2, 26), (2, 2, 27)]⟩, ⟨.one (.s), [(0, 0, 28)]⟩], true⟩,
      .base ⟨0, [.any, .fact 17], [⟨.one (.s), [(0, 0, 29)]⟩], .fresh [] (mRow 112 1)⟩,
      .base ⟨34, [.fact 29], [⟨.agg [.b, .s], [(0, 0, 30)]⟩], false⟩,
      .base ⟨33, [.fact 20, .fact 30], [⟨.one (.lit (.cb true)), []⟩], false⟩,
      .base ⟨0, [.any, .fact 17, .fact 8], [⟨.one (.s), [(0, 0, 31)]⟩], .fresh [] (mRow 112 2)⟩,
      .base ⟨34, [.fact 31], [⟨.agg [.b, .s], [(0, 0, 32)]⟩], false⟩,
      .base ⟨33, [.fact 22, .fact 32], [⟨.one (.lit (.cb true)), []⟩], false⟩,
      .base ⟨33, [.fact 26, .fact 23], [⟨.one (.lit (.cb true)), []⟩], false⟩,
      .base ⟨35, [.fact 28, .fact 24], [⟨.one (.lit (.cb true)), []⟩], false⟩,
      .base ⟨34, [.lit .nl], [⟨.agg [.b, .s], [(0, 0, 33)]⟩], false⟩,
      .base ⟨36, [.fact 33], [⟨.one (.lit (.cb true)), []⟩], false⟩,
      .base ⟨37, [], [⟨.one (.lit (.cb true)), []⟩], false⟩]
def ins_path_0 : List Out := [⟨.one (.s), [(0, 0, 0)]⟩, ⟨.one (.s), [(0, 0, 1)]⟩, ⟨.agg [.b, .s], [(0, 0, 2), (0, 1, 3), (1, 1, 4), (1, 1, 5)]⟩]
set_option maxHeartbeats 1000000 in
set_option maxRecDepth 100000 in
theorem path_0 {aa ab : Nat → Bool} {xsa xsb : Nat → List Nat} {eza ezb : Nat → Int} {ma mb Na Nb : Nat} {ac : Bool} {xc : List Nat} {cz : Int} {X P : List Int} (hna : ma ≤ 9223372036854775807) (hza : ∀ j, sg (aa j) (Proofs.YtigkehblnlghkaaGreat.val 4294967296 ((xsa j).take 3)) = eza j) (hNna : min ma 8 = Na) (hnb : mb ≤ 9223372036854775807) (hzb : ∀ j, sg (ab j) (Proofs.YtigkehblnlghkaaGreat.val 4294967296 ((xsb j).take 3)) = ezb j) (hNnb : min mb 8 = Nb) (hLa : (trimL (mk Na eza)).length ≤ 8) (hLb : (trimL (mk Nb ezb)).length ≤ 8) (hBx : ∀ i, i < (trimL (mk Na eza)).length → Bd (coef (trimL (mk Na eza)) i * cz).natAbs 5) (hX : trimL (mk (trimL (mk Na eza)).length fun i => coef (trimL (mk Na eza)) i * cz) = X) (hXl : X.length ≤ 8) (htX : tl (coef X) X.length = X.length) (hBX : ∀ i, i < X.length → Bd (coef X i).natAbs 5) (hP : dvL (coef X) X.length (pcon (coef X) X.length) = P) (hPl : P.length ≤ 8) (hs2 : ∀ j, j ≤ 2 → (catL (sel2 (coef X) ezb) (sel2 X.length Nb) j).length ≤ 1000000) (hh : (gcdF (gcdZ (coef X) X.length) (coef (trimL (mk Nb ezb))) (trimL (mk Nb ezb)).length : Int) = (gcdZ (coef (catL (sel2 (coef X) ezb) (sel2 X.length Nb) 2)) (catL (sel2 (coef X) ezb) (sel2 X.length Nb) 2).length : Int)) (hxc : xc.length ≤ 2) (hcz : sg ac (Proofs.YtigkehblnlghkaaGreat.val 4294967296 xc) = cz) : SiteOk (ph (b_path_0 aa ab xsa xsb eza ezb ma mb Na Nb ac xc cz X P)) Tryz.prog ⟨4, [.fact 0, .fact 1, .fact 2], [⟨.one (.lit (.cb true)), []⟩], false⟩ := by
  skip
  exact fn_okL ins_path_0 [⟨.one (.lit (.cb true)), []⟩] ss_path_0 Tryz.func4 (by kernel_rfl)
    (lbase (sCut5 8 3 rfl rfl (fun _ _ h => h) rfl rfl (by omega) (by omega) (by omega) hza hNna)
      (lbase (sCut5 8 3 rfl rfl (fun _ _ h => h) rfl rfl (by omega) (by omega) (by omega) hzb hNnb)
      (lbase (qLenS' (n := xc.length) Tryz.underlying24 (fun _ _ h => h) rfl)
      (lbase (qTestC (op := .gtr) (fun _ _ h => h) (ts_run (decide_eq_false (by omega)) (by simp)))
      (lbase (tFrom (z := sg ac (Proofs.YtigkehblnlghkaaGreat.val 4294967296 xc)) (i := 2) (fun _ _ h => RawI.i 2 h (by first | omega | (rw [List.length_take]; omega))) rfl (by omega) hcz)
      (lbase (tOf (z := 1) rfl (by decide) (by decide) rfl)
      (lbase (tMake dD dD rfl rfl rfl (by omega) (qOf_int cz))
      (lbase (sRScaleI (z := coef (trimL (mk Na eza))) (c := cz) (n := (trimL (mk Na eza)).length) (K := 5) (X := X) (fun _ _ h => h) tS rfl (by omega) (by omega) (by omega) (by omega) (by omega) hBx hX)
      (lbase (sRTo (z := coef X) (n := X.length) (k := 5) (fun _ _ h => h) rfl (by omega) (by omega))
      (lbase (tOf (z := 0) rfl (by decide) (by decide) rfl)
      (lbase (qLen (sz := 4) (n := X.length) (F := (fun ι w v => DecQ w v ((((coef X) ι : Int) : Rat)) 5)) Tryz.underlying30 (fun _ _ h => Rw.arr h) rfl)
      (lloop (counted X.length (fun j => ph (b_path_0 aa ab xsa xsb eza ezb ma mb Na Nb ac xc cz X P ++ l_path_0_1 X j)) (fun _ => 0) (fun j p hp => ph_app' (show p < (b_path_0 aa ab xsa xsb eza ezb ma mb Na Nb ac xc cz X P).length from hp)) ⟨fun _ => rfl, fun _ _ h => DecI.reX (DecI.eqz (y := ((gcdZ (coef X) 0 : Nat) : Int)) h rfl) (Nat.pow_pos (by omega)), trivial⟩ (fun j hj => by
      skip
      exact ⟨(r_path_0_1_0, [.from 40, .from 39]), rfl, ⟨fun _ _ h => h, fun _ _ h => h, trivial⟩, (lbase (qTest (op := .lss) (fun _ _ h => h) (fun _ _ h => h) (ts_run (decide_eq_true (by omega)) (by simp)))
      (lbase (qIdx (i := j) (sz := 4) (n := X.length) (F := (fun ι w v => DecQ w v ((((coef X) ι : Int) : Rat)) 5)) Tryz.underlying30 (by kernel_rfl) (fun _ _ h => Rw.arr h) (fun _ _ h => h) (by omega) rfl)
      (lbase (qFld (off := 0) (len := 2) (sz := 4) (F := fun w v => DecQ w v ((((coef X) j : Int) : Rat)) 5) (G := fun w v => DecI w v (((((coef X) j : Int) : Rat)).num) 5) (by kernel_rfl) (fun _ _ h => h) (by omega) (fun _ _ h => DecQ.fst' h) rfl)
      (lbase (qLoad (sz := 2) (F := fun w v => DecI w v (((((coef X) j : Int) : Rat)).num) 5) (by kernel_rfl) (by kernel_rfl) (fun _ _ h => h) (fun _ _ _ g h => DecI.kp h g) (fun _ _ h => DecI.is h) rfl)
      (lbase (tGcd 7 dD dD rfl (by omega) (by omega) (by omega) rfl)
      (lbase (qAddK (fun _ _ h => h) (by omega) rfl (by omega) (by omega))
      lnil))))))⟩)
      (lbase (qTest (op := .lss) (fun _ _ h => h) (fun _ _ h => h) (ts_run (decide_eq_false (by omega)) (by simp)))
      lnil)
      (fun q hq w v h => by
        simp only [d_path_0_1, List.mem_cons, List.not_mem_nil, or_false] at hq
        rcases hq with rfl
        · exact (fun h => h) h)) (lbase (qLen (sz := 4) (n := (trimL (mk Nb ezb)).length) (F := (fun ι w v => DecQ w v ((((coef (trimL (mk Nb ezb))) ι : Int) : Rat)) (3 + 2 + 2))) Tryz.underlying30 (fun _ _ h => Rw.arr h) rfl)
      (lloop (counted (trimL (mk Nb ezb)).length (fun i => ph (b_path_0 aa ab xsa xsb eza ezb ma mb Na Nb ac xc cz X P ++ l_path_0_2 ezb Nb X i)) (fun _ => 0) (fun i p hp => ph_app' (show p < (b_path_0 aa ab xsa xsb eza ezb ma mb Na Nb ac xc cz X P).length from hp)) ⟨fun _ => rfl, fun _ _ h => h, trivial⟩ (fun i hi => by
      skip
      exact ⟨(r_path_0_2_0, [.from 40, .from 39]), rfl, ⟨fun _ _ h => h, fun _ _ h => h, trivial⟩, (lbase (qTest (op := .lss) (fun _ _ h => h) (fun _ _ h => h) (ts_run (decide_eq_true (by omega)) (by simp)))
      (lbase (qIdx (i := i) (sz := 4) (n := (trimL (mk Nb ezb)).length) (F := (fun ι w v => DecQ w v ((((coef (trimL (mk Nb ezb))) ι : Int) : Rat)) (3 + 2 + 2))) Tryz.underlying30 (by kernel_rfl) (fun _ _ h => Rw.arr h) (fun _ _ h => h) (by omega) rfl)
      (lbase (qFld (off := 0) (len := 2) (sz := 4) (F := fun w v => DecQ w v ((((coef (trimL (mk Nb ezb))) i : Int) : Rat)) (3 + 2 + 2)) (G := fun w v => DecI w v (((((coef (trimL (mk Nb ezb))) i : Int) : Rat)).num) (3 + 2 + 2)) (by kernel_rfl) (fun _ _ h => h) (by omega) (fun _ _ h => DecQ.fst' h) rfl)
      (lbase (qLoad (sz := 2) (F := fun w v => DecI w v (((((coef (trimL (mk Nb ezb))) i : Int) : Rat)).num) (3 + 2 + 2)) (by kernel_rfl) (by kernel_rfl) (fun _ _ h => h) (fun _ _ _ g h => DecI.kp h g) (fun _ _ h => DecI.is h) rfl)
      (lbase (tGcd 7 dD dD rfl (by omega) (by omega) (by omega) rfl)
      (lbase (qAddK (fun _ _ h => h) (by omega) rfl (by omega) (by omega))
      lnil))))))⟩)
      (lbase (qTest (op := .lss) (fun _ _ h => h) (fun _ _ h => h) (ts_run (decide_eq_false (by omega)) (by simp)))
      lnil)
      (fun q hq w v h => by
        simp only [d_path_0_2, List.mem_cons, List.not_mem_nil, or_false] at hq
        rcases hq with rfl
        · exact (fun h => h) h)) (lbase (sPrim (z := (coef X)) (n := X.length) (m := P.length) (fun _ _ h => Rw.to (sz := 2) (n := X.length) (F := (fun ι w v => NorV w v ((coef X) ι) 5)) (h) (fun i w v _ h => (fun _ _ _ h => NorV.i h) i w v h)) rfl rfl (by omega) (by omega) hP rfl)
      (lbase (sRPrim (z := coef X) (n := X.length) (k := 5) (K := 5) (fun _ _ h => h) rfl rfl rfl rfl (by omega) (by omega) (by omega) (by omega) (by omega) htX hBX hP)
      (lbase (qRowP1 (z := (coef X)) (n := X.length) (fun _ _ h => Rw.to (sz := 2) (n := X.length) (F := (fun ι w v => NorV w v ((coef X) ι) 5)) (h) (fun i w v _ h => (fun _ _ _ h => NorV.i h) i w v h)) rfl)
      (lbase (sContent1 (z := (coef X)) (n := X.length) (fun _ _ h => h) rfl (by omega) (by omega))
      (lbase (tSame dD nN (by omega) (rfl) rfl)
      (lbase (qRowP2 (z := (coef X)) (y := ezb) (n := X.length) (m := Nb) (fun _ _ h => Rw.to (sz := 2) (n := X.length) (F := (fun ι w v => NorV w v ((coef X) ι) 5)) (h) (fun i w v _ h => (fun _ _ _ h => NorV.i h) i w v h)) (fun w v h => Rw.to (sz := 2) (n := Nb) (F := fun i w v => IntV w v (ezb i) 3) ((fun _ _ h => Rw.to (sz := 2) (n := Nb) (F := (fun ι w v => KI w v (ab ι) ((fun ι => (xsb ι).take 3) ι) (ezb ι) 3)) (h) (fun i w v _ h => (fun _ _ _ h => And.right h) i w v h)) w v h) fun i w v _ h => IntV.more h (by omega)) rfl)
      (lbase (sContent (zz := (sel2 (coef X) ezb)) (ln := (sel2 X.length Nb)) (n := 2) (fun _ _ h => h) rfl (by omega) (by omega) hs2)
      (lbase (tSame dD nN (by omega) (hh) rfl)
      (lbase (tSame dD nN (by omega) (rfl) rfl)
      (lbase (sIs6 (z := (coef P)) (n := P.length) (k := 5) (kq := 5) (fun _ _ h => h) (fun _ _ h => h) (by omega) (by omega) (by omega))
      (lbase (sContent0 rfl)
      (lbase (sIZero nN rfl)
      (lbase (sWakes6)
      lnil)))))))))))))))))))))))))))
    (ins_ok [.fact 0 (.one (.s)), .fact 1 (.one (.s)), .sub 2 (.agg [.b, .s]) [(0, 1, 3), (1, 1, 4), (1, 1, 5)]] ⟨fun _ _ h => Rw.is (sz := 2) (F := (fun ι w v => RawI w v (aa ι) (xsa ι))) (n := ma) h, fun _ _ h => Rw.is (sz := 2) (F := (fun ι w v => RawI w v (ab ι) (xsb ι))) (n := mb) h, ⟨fun _ _ h => RawI.is h, fun _ _ h => RawI.b1 h, fun _ _ h => RawI.sl h, fun _ _ h => RawI.len h, trivial⟩, trivial⟩) (fun _ _ _ h => h)

def b_path_1 (aa ab : Nat → Bool) (xsa xsb : Nat → List Nat) (eza ezb : Nat → Int) (ma mb Na Nb : Nat) (ac : Bool) (xc : List Nat) (cz : Int) (X P : List Int) : List (World → Value → Prop) := [fun w v => Rw 2 (fun ι w v => RawI w v (aa ι) (xsa ι)) ma w v, fun w v => Rw 2 (fun ι w v => RawI w v (ab ι) (xsb ι)) mb w v, fun w v => RawI w v ac xc, fun _ v => v = .bool ac, fun w v => SlA w v xc, LenS xc.length, fun w v => Rw 2 (fun ι w v => KI w v (aa ι) ((fun ι => (xsa ι).take 3) ι) (eza ι) 3) Na w v, fun w v => Rw 4 (fun ι w v => DecQ w v ((((coef (trimL (mk Na eza))) ι : Int) : Rat)) (3 + 2 + 2)) ((trimL (mk Na eza)).length) w v, fun w v => Rw 2 (fun ι w v => KI w v (ab ι) ((fun ι => (xsb ι).take 3) ι) (ezb ι) 3) Nb w v, fun w v => Rw 4 (fun ι w v => DecQ w v ((((coef (trimL (mk Nb ezb))) ι : Int) : Rat)) (3 + 2 + 2)) ((trimL (mk Nb ezb)).length) w v, fun _ v => v = .int .i64 ((xc.length : Nat) : Int), fun w v => SlA w v (xc.take 2), fun w v => RawI w v ac (xc.take 2), fun w v => DecI w v cz 2, fun w v => DecI w v (1 : Int) 2, fun w v => DecQ w v ((cz : Int) : Rat) (2 + 2 + 2), fun w v => DecI w v (((cz : Int) : Rat).num) (2 + 2 + 2), fun w v => DecI w v (((cz : Int) : Rat).den : Int) (2 + 2 + 2), fun w v => Rw 4 (fun ι w v => DecQ w v ((((coef X) ι : Int) : Rat)) 5) X.length w v, fun w v => Rw 2 (fun ι w v => NorV w v ((coef X) ι) 5) X.length w v, fun w v => DecI w v (0 : Int) 2, fun _ v => v = .int .i64 ((X.length : Nat) : Int), fun w v => DecI w v (gcdZ (coef X) X.length : Int) 7, fun _ v => v = .int .i64 (((trimL (mk Nb ezb)).length : Nat) : Int), fun w v => DecI w v (gcdF (gcdZ (coef X) X.length) (coef (trimL (mk Nb ezb))) (trimL (mk Nb ezb)).length : Int) 7, fun w v => NorV w v (pcon (coef X) X.length) 5, fun w v => Rw 2 (fun ι w v => NorV w v ((coef P) ι) 5) P.length w v, fun w v => DecQ w v ((pcon (coef X) X.length : Int) : Rat) (5 + 2 + 2), fun w v => DecI w v (((pcon (coef X) X.length : Int) : Rat).num) (5 + 2 + 2), fun w v => DecI w v (((pcon (coef X) X.length : Int) : Rat).den : Int) (5 + 2 + 2), fun w v => Rw 4 (fun ι w v => DecQ w v ((((coef P) ι : Int) : Rat)) 5) P.length w v, fun w v => Rw 1 (PRow (fun _ => (coef X)) (fun _ => X.length) 5) 1 w v, fun w v => NorV w v (gcdZ (coef X) X.length : Int) 5, fun w v => Rw 1 (PRow (sel2 (coef X) ezb) (sel2 X.length Nb) 5) 2 w v, fun w v => NorV w v (gcdZ (coef (catL (sel2 (coef X) ezb) (sel2 X.length Nb) 2)) (catL (sel2 (coef X) ezb) (sel2 X.length Nb) 2).length : Int) 5, fun w v => NorV w v (0 : Int) 0]
def l_path_1_2 (ezb : Nat → Int) (Nb : Nat) (X : List Int) (i : Nat) : List (World → Value → Prop) := [fun _ v => v = .int .i64 ((i : Nat) : Int), fun w v => DecI w v (gcdF (gcdZ (coef X) X.length) (coef (trimL (mk Nb ezb))) i : Int) 7, fun w v => Ptr 4 (fun w v => DecQ w v ((((coef (trimL (mk Nb ezb))) i : Int) : Rat)) (3 + 2 + 2)) w v, fun w v => Ptr 2 (fun w v => DecI w v (((((coef (trimL (mk Nb ezb))) i : Int) : Rat)).num) (3 + 2 + 2)) w v, fun w v => DecI w v (((((coef (trimL (mk Nb ezb))) i : Int) : Rat)).num) (3 + 2 + 2), fun w v => DecI w v (Int.gcd (gcdF (gcdZ (coef X) X.length) (coef (trimL (mk Nb ezb))) i : Int) (((((coef (trimL (mk Nb ezb))) i : Int) : Rat)).num) : Int) 7, fun _ v => v = .int .i64 (((i + 1) : Nat) : Int)]
def d_path_1_2 : LoopD := ⟨[0, 1, 2, 5, 6, 7, 8, 9, 11, 17, 18, 19, 20, 21, 22, 23, 24, 25, 26, 27, 28, 29, 30, 31, 32, 33, 34, 35, 36, 37, 38, 39, 40, 41, 42, 43, 44, 45, 46, 47, 57, 58, 59], [(.slot 60, .i), (.cell 45 0, .s), (.cell 45 1, .b)], [(.one 0, 36), (.agg [1, 2], 37)], [.closed (.one (.ci .i64 0)), .from 22], 36, [(37, 24)]⟩
def r_path_1_2_0 : List Step := [.base ⟨0, [.fact 36, .fact 23], [⟨.one (.lit (.cb true)), []⟩], .quiet (mBin .lss)⟩,
      .base ⟨0, [.fact 9, .fact 36], [⟨.one (.p), [(0, 0, 38)]⟩], .quiet (mIdx 30)⟩,
      .base ⟨0, [.fact 38], [⟨.one (.p), [(0, 0, 39)]⟩], .quiet (mFld 53 0)⟩,
      .base ⟨0, [.fact 39], [⟨.agg [.s, .b], [(0, 0, 40)]⟩], .quiet (mLoad 51)⟩,
      .base ⟨30, [.fact 37, .fact 40], [⟨.agg [.s, .b], [(0, 0, 41)]⟩], false⟩,
      .base ⟨0, [.fact 36, .lit (.ci .i64 1)], [⟨.one (.i), [(0, 0, 42)]⟩], .quiet (mBin .add)⟩]
def o_path_1_2 : List Step := [.base ⟨0, [.fact 36, .fact 23], [⟨.one (.lit (.cb false)), []⟩], .quiet (mBin .lss)⟩]
def l_path_1_1 (X : List Int) (j : Nat) : List (World → Value → Prop) := [fun _ v => v = .int .i64 ((j : Nat) : Int), fun w v => DecI w v (gcdZ (coef X) j : Int) 7, fun w v => Ptr 4 (fun w v => DecQ w v ((((coef X) j : Int) : Rat)) 5) w v, fun w v => Ptr 2 (fun w v => DecI w v (((((coef X) j : Int) : Rat)).num) 5) w v, fun w v => DecI w v (((((coef X) j : Int) : Rat)).num) 5, fun w v => DecI w v (Int.gcd (gcdZ (coef X) j : Int) (((((coef X) j : Int) : Rat)).num) : Int) 7, fun _ v => v = .int .i64 (((j + 1) : Nat) : Int)]
def d_path_1_1 : LoopD := ⟨[0, 1, 2, 5, 6, 7, 8, 9, 17, 18, 19, 20, 21, 22, 23, 24, 25, 26, 27, 28, 29, 30, 31, 32, 33, 34, 35, 36, 37, 38, 39, 40, 41, 42, 43, 44, 45], [(.slot 46, .i), (.cell 37 0, .s), (.cell 37 1, .b)], [(.one 0, 36), (.agg [1, 2], 37)], [.closed (.one (.ci .i64 0)), .from 20], 36, [(37, 22)]⟩
def r_path_1_1_0 : List Step := [.base ⟨0, [.fact 36, .fact 21], [⟨.one (.lit (.cb true)), []⟩], .quiet (mBin .lss)⟩,
      .base ⟨0, [.fact 18, .fact 36], [⟨.one (.p), [(0, 0, 38)]⟩], .quiet (mIdx 30)⟩,
      .base ⟨0, [.fact 38], [⟨.one (.p), [(0, 0, 39)]⟩], .quiet (mFld 53 0)⟩,
      .base ⟨0, [.fact 39], [⟨.agg [.s, .b], [(0, 0, 40)]⟩], .quiet (mLoad 51)⟩,
      .base ⟨30, [.fact 37, .fact 40], [⟨.agg [.s, .b], [(0, 0, 41)]⟩], false⟩,
      .base ⟨0, [.fact 36, .lit (.ci .i64 1)], [⟨.one (.i), [(0, 0, 42)]⟩], .quiet (mBin .add)⟩]
def o_path_1_1 : List Step := [.base ⟨0, [.fact 36, .fact 21], [⟨.one (.lit (.cb false)), []⟩], .quiet (mBin .lss)⟩]
def ss_path_1 : List Step := [.base ⟨11, [.fact 0, .lit (.ci .i64 8), .lit (.ci .i64 3)], [⟨.one (.s), [(0, 0, 6)]⟩, ⟨.one (.s), [(0, 0, 7)]⟩], true⟩,
      .base ⟨11, [.fact 1, .lit (.ci .i64 8), .lit (.ci .i64 3)], [⟨.one (.s), [(0, 0, 8)]⟩, ⟨.one (.s), [(0, 0, 9)]⟩], true⟩,
      .base ⟨0, [.fact 5], [⟨.one (.i), [(0, 0, 10)]⟩], .quiet (mLen 24)⟩,
      .base ⟨0, [.fact 10, .lit (.ci .i64 2)], [⟨.one (.lit (.cb true)), []⟩], .quiet (mBin .gtr)⟩,
      .base ⟨0, [.fact 4, .lit (.ci .i64 2)], [⟨.one (.s), [(0, 0, 11)]⟩], .quiet (mTo' 24)⟩,
      .derive (.agg [.b 0 2, .s 23 0]) (.agg [.b, .s]) [(0, 1, 3), (1, 1, 11)] 12,
      .base ⟨27, [.fact 12], [⟨.agg [.s, .b], [(0, 0, 13)]⟩], false⟩,
      .base ⟨28, [.lit (.ci .i64 1)], [⟨.agg [.s, .b], [(0, 0, 14)]⟩], false⟩,
      .base ⟨26, [.fact 13, .fact 14], [⟨.agg [.s, .b, .s, .b], [(0, 0, 15), (0, 2, 16), (2, 2, 17)]⟩], false⟩,
      .base ⟨25, [.fact 7, .fact 15], [⟨.one (.s), [(0, 0, 18)]⟩], false⟩,
      .base ⟨29, [.fact 18], [⟨.one (.s), [(0, 0, 19)]⟩], false⟩,
      .base ⟨28, [.lit (.ci .i64 0)], [⟨.agg [.s, .b], [(0, 0, 20)]⟩], false⟩,
      .base ⟨0, [.fact 18], [⟨.one (.i), [(0, 0, 21)]⟩], .quiet (mLen 30)⟩,
      .loop d_path_1_1 [(r_path_1_1_0, [.from 42, .from 41])] o_path_1_1,
      .base ⟨0, [.fact 9], [⟨.one (.i), [(0, 0, 23)]⟩], .quiet (mLen 30)⟩,
      .loop d_path_1_2 [(r_path_1_2_0, [.from 42, .from 41])] o_path_1_2,
      .base ⟨31, [.fact 19], [⟨.agg [.b, .s], [(0, 0, 25)]⟩, ⟨.one (.s), [(0, 0, 26)]⟩], true⟩,
      .base ⟨32, [.fact 18], [⟨.agg [.s, .b, .s, .b], [(0, 0, 27), (0, 2, 28), (2, 2, 29)]⟩, ⟨.one (.s), [(0, 0, 30)]⟩], true⟩,
      .base ⟨0, [.any, .fact 19], [⟨.one (.s), [(0, 0, 31)]⟩], .fresh [] (mRow 112 1)⟩,
      .base ⟨34, [.fact 31], [⟨.agg [.b, .s], [(0, 0, 32)]⟩], false⟩,
      .base ⟨33, [.fact 22, .fact 32], [⟨.one (.lit (.cb true)), []⟩], false⟩,
      .base ⟨0, [.any, .fact 19, .fact 8], [⟨.one (.s), [(0, 0, 33)]⟩], .fresh [] (mRow 112 2)⟩,
      .base ⟨34, [.fact 33], [⟨.agg [.b, .s], [(0, 0, 34)]⟩], false⟩,
      .base ⟨33, [.fact 24, .fact 34], [⟨.one (.lit (.cb true)), []⟩], false⟩,
      .base ⟨33, [.fact 28, .fact 25], [⟨.one (.lit (.cb true)), []⟩], false⟩,
      .base ⟨35, [.fact 30, .fact 26], [⟨.one (.lit (.cb true)), []⟩], false⟩,
      .base ⟨34, [.lit .nl], [⟨.agg [.b, .s], [(0, 0, 35)]⟩], false⟩,
      .base ⟨36, [.fact 35], [⟨.one (.lit (.cb true)), []⟩], false⟩,
      .base ⟨37, [], [⟨.one (.lit (.cb true)), []⟩], false⟩]
def ins_path_1 : List Out := [⟨.one (.s), [(0, 0, 0)]⟩, ⟨.one (.s), [(0, 0, 1)]⟩, ⟨.agg [.b, .s], [(0, 0, 2), (0, 1, 3), (1, 1, 4), (1, 1, 5)]⟩]
set_option maxHeartbeats 1000000 in
set_option maxRecDepth 100000 in
theorem path_1 {aa ab : Nat → Bool} {xsa xsb : Nat → List Nat} {eza ezb : Nat → Int} {ma mb Na Nb : Nat} {ac : Bool} {xc : List Nat} {cz : Int} {X P : List Int} (hna : ma ≤ 9223372036854775807) (hza : ∀ j, sg (aa j) (Proofs.YtigkehblnlghkaaGreat.val 4294967296 ((xsa j).take 3)) = eza j) (hNna : min ma 8 = Na) (hnb : mb ≤ 9223372036854775807) (hzb : ∀ j, sg (ab j) (Proofs.YtigkehblnlghkaaGreat.val 4294967296 ((xsb j).take 3)) = ezb j) (hNnb : min mb 8 = Nb) (hLa : (trimL (mk Na eza)).length ≤ 8) (hLb : (trimL (mk Nb ezb)).length ≤ 8) (hBx : ∀ i, i < (trimL (mk Na eza)).length → Bd (coef (trimL (mk Na eza)) i * cz).natAbs 5) (hX : trimL (mk (trimL (mk Na eza)).length fun i => coef (trimL (mk Na eza)) i * cz) = X) (hXl : X.length ≤ 8) (htX : tl (coef X) X.length = X.length) (hBX : ∀ i, i < X.length → Bd (coef X i).natAbs 5) (hP : dvL (coef X) X.length (pcon (coef X) X.length) = P) (hPl : P.length ≤ 8) (hs2 : ∀ j, j ≤ 2 → (catL (sel2 (coef X) ezb) (sel2 X.length Nb) j).length ≤ 1000000) (hh : (gcdF (gcdZ (coef X) X.length) (coef (trimL (mk Nb ezb))) (trimL (mk Nb ezb)).length : Int) = (gcdZ (coef (catL (sel2 (coef X) ezb) (sel2 X.length Nb) 2)) (catL (sel2 (coef X) ezb) (sel2 X.length Nb) 2).length : Int)) (hxc : 2 < xc.length) (hcz : sg ac (Proofs.YtigkehblnlghkaaGreat.val 4294967296 (xc.take 2)) = cz) : SiteOk (ph (b_path_1 aa ab xsa xsb eza ezb ma mb Na Nb ac xc cz X P)) Tryz.prog ⟨4, [.fact 0, .fact 1, .fact 2], [⟨.one (.lit (.cb true)), []⟩], false⟩ := by
  skip
  exact fn_okL ins_path_1 [⟨.one (.lit (.cb true)), []⟩] ss_path_1 Tryz.func4 (by kernel_rfl)
    (lbase (sCut5 8 3 rfl rfl (fun _ _ h => h) rfl rfl (by omega) (by omega) (by omega) hza hNna)
      (lbase (sCut5 8 3 rfl rfl (fun _ _ h => h) rfl rfl (by omega) (by omega) (by omega) hzb hNnb)
      (lbase (qLenS' (n := xc.length) Tryz.underlying24 (fun _ _ h => h) rfl)
      (lbase (qTestC (op := .gtr) (fun _ _ h => h) (ts_run (decide_eq_true (by omega)) (by simp)))
      (lbase (qToL (m := 2) (sz := 1) Tryz.underlying24 (by kernel_rfl) (fun _ _ h => h) (by omega) rfl)
      (lderive (deriveRaw (fun _ _ h => h) (fun _ _ h => h) rfl)
      (lbase (tFrom (z := sg ac (Proofs.YtigkehblnlghkaaGreat.val 4294967296 (xc.take 2))) (i := 2) (fun _ _ h => RawI.i 2 h (by first | omega | (rw [List.length_take]; omega))) rfl (by omega) hcz)
      (lbase (tOf (z := 1) rfl (by decide) (by decide) rfl)
      (lbase (tMake dD dD rfl rfl rfl (by omega) (qOf_int cz))
      (lbase (sRScaleI (z := coef (trimL (mk Na eza))) (c := cz) (n := (trimL (mk Na eza)).length) (K := 5) (X := X) (fun _ _ h => h) tS rfl (by omega) (by omega) (by omega) (by omega) (by omega) hBx hX)
      (lbase (sRTo (z := coef X) (n := X.length) (k := 5) (fun _ _ h => h) rfl (by omega) (by omega))
      (lbase (tOf (z := 0) rfl (by decide) (by decide) rfl)
      (lbase (qLen (sz := 4) (n := X.length) (F := (fun ι w v => DecQ w v ((((coef X) ι : Int) : Rat)) 5)) Tryz.underlying30 (fun _ _ h => Rw.arr h) rfl)
      (lloop (counted X.length (fun j => ph (b_path_1 aa ab xsa xsb eza ezb ma mb Na Nb ac xc cz X P ++ l_path_1_1 X j)) (fun _ => 0) (fun j p hp => ph_app' (show p < (b_path_1 aa ab xsa xsb eza ezb ma mb Na Nb ac xc cz X P).length from hp)) ⟨fun _ => rfl, fun _ _ h => DecI.reX (DecI.eqz (y := ((gcdZ (coef X) 0 : Nat) : Int)) h rfl) (Nat.pow_pos (by omega)), trivial⟩ (fun j hj => by
      skip
      exact ⟨(r_path_1_1_0, [.from 42, .from 41]), rfl, ⟨fun _ _ h => h, fun _ _ h => h, trivial⟩, (lbase (qTest (op := .lss) (fun _ _ h => h) (fun _ _ h => h) (ts_run (decide_eq_true (by omega)) (by simp)))
      (lbase (qIdx (i := j) (sz := 4) (n := X.length) (F := (fun ι w v => DecQ w v ((((coef X) ι : Int) : Rat)) 5)) Tryz.underlying30 (by kernel_rfl) (fun _ _ h => Rw.arr h) (fun _ _ h => h) (by omega) rfl)
      (lbase (qFld (off := 0) (len := 2) (sz := 4) (F := fun w v => DecQ w v ((((coef X) j : Int) : Rat)) 5) (G := fun w v => DecI w v (((((coef X) j : Int) : Rat)).num) 5) (by kernel_rfl) (fun _ _ h => h) (by omega) (fun _ _ h => DecQ.fst' h) rfl)
      (lbase (qLoad (sz := 2) (F := fun w v => DecI w v (((((coef X) j : Int) : Rat)).num) 5) (by kernel_rfl) (by kernel_rfl) (fun _ _ h => h) (fun _ _ _ g h => DecI.kp h g) (fun _ _ h => DecI.is h) rfl)
      (lbase (tGcd 7 dD dD rfl (by omega) (by omega) (by omega) rfl)
      (lbase (qAddK (fun _ _ h => h) (by omega) rfl (by omega) (by omega))
      lnil))))))⟩)
      (lbase (qTest (op := .lss) (fun _ _ h => h) (fun _ _ h => h) (ts_run (decide_eq_false (by omega)) (by simp)))
      lnil)
      (fun q hq w v h => by
        simp only [d_path_1_1, List.mem_cons, List.not_mem_nil, or_false] at hq
        rcases hq with rfl
        · exact (fun h => h) h)) (lbase (qLen (sz := 4) (n := (trimL (mk Nb ezb)).length) (F := (fun ι w v => DecQ w v ((((coef (trimL (mk Nb ezb))) ι : Int) : Rat)) (3 + 2 + 2))) Tryz.underlying30 (fun _ _ h => Rw.arr h) rfl)
      (lloop (counted (trimL (mk Nb ezb)).length (fun i => ph (b_path_1 aa ab xsa xsb eza ezb ma mb Na Nb ac xc cz X P ++ l_path_1_2 ezb Nb X i)) (fun _ => 0) (fun i p hp => ph_app' (show p < (b_path_1 aa ab xsa xsb eza ezb ma mb Na Nb ac xc cz X P).length from hp)) ⟨fun _ => rfl, fun _ _ h => h, trivial⟩ (fun i hi => by
      skip
      exact ⟨(r_path_1_2_0, [.from 42, .from 41]), rfl, ⟨fun _ _ h => h, fun _ _ h => h, trivial⟩, (lbase (qTest (op := .lss) (fun _ _ h => h) (fun _ _ h => h) (ts_run (decide_eq_true (by omega)) (by simp)))
      (lbase (qIdx (i := i) (sz := 4) (n := (trimL (mk Nb ezb)).length) (F := (fun ι w v => DecQ w v ((((coef (trimL (mk Nb ezb))) ι : Int) : Rat)) (3 + 2 + 2))) Tryz.underlying30 (by kernel_rfl) (fun _ _ h => Rw.arr h) (fun _ _ h => h) (by omega) rfl)
      (lbase (qFld (off := 0) (len := 2) (sz := 4) (F := fun w v => DecQ w v ((((coef (trimL (mk Nb ezb))) i : Int) : Rat)) (3 + 2 + 2)) (G := fun w v => DecI w v (((((coef (trimL (mk Nb ezb))) i : Int) : Rat)).num) (3 + 2 + 2)) (by kernel_rfl) (fun _ _ h => h) (by omega) (fun _ _ h => DecQ.fst' h) rfl)
      (lbase (qLoad (sz := 2) (F := fun w v => DecI w v (((((coef (trimL (mk Nb ezb))) i : Int) : Rat)).num) (3 + 2 + 2)) (by kernel_rfl) (by kernel_rfl) (fun _ _ h => h) (fun _ _ _ g h => DecI.kp h g) (fun _ _ h => DecI.is h) rfl)
      (lbase (tGcd 7 dD dD rfl (by omega) (by omega) (by omega) rfl)
      (lbase (qAddK (fun _ _ h => h) (by omega) rfl (by omega) (by omega))
      lnil))))))⟩)
      (lbase (qTest (op := .lss) (fun _ _ h => h) (fun _ _ h => h) (ts_run (decide_eq_false (by omega)) (by simp)))
      lnil)
      (fun q hq w v h => by
        simp only [d_path_1_2, List.mem_cons, List.not_mem_nil, or_false] at hq
        rcases hq with rfl
        · exact (fun h => h) h)) (lbase (sPrim (z := (coef X)) (n := X.length) (m := P.length) (fun _ _ h => Rw.to (sz := 2) (n := X.length) (F := (fun ι w v => NorV w v ((coef X) ι) 5)) (h) (fun i w v _ h => (fun _ _ _ h => NorV.i h) i w v h)) rfl rfl (by omega) (by omega) hP rfl)
      (lbase (sRPrim (z := coef X) (n := X.length) (k := 5) (K := 5) (fun _ _ h => h) rfl rfl rfl rfl (by omega) (by omega) (by omega) (by omega) (by omega) htX hBX hP)
      (lbase (qRowP1 (z := (coef X)) (n := X.length) (fun _ _ h => Rw.to (sz := 2) (n := X.length) (F := (fun ι w v => NorV w v ((coef X) ι) 5)) (h) (fun i w v _ h => (fun _ _ _ h => NorV.i h) i w v h)) rfl)
      (lbase (sContent1 (z := (coef X)) (n := X.length) (fun _ _ h => h) rfl (by omega) (by omega))
      (lbase (tSame dD nN (by omega) (rfl) rfl)
      (lbase (qRowP2 (z := (coef X)) (y := ezb) (n := X.length) (m := Nb) (fun _ _ h => Rw.to (sz := 2) (n := X.length) (F := (fun ι w v => NorV w v ((coef X) ι) 5)) (h) (fun i w v _ h => (fun _ _ _ h => NorV.i h) i w v h)) (fun w v h => Rw.to (sz := 2) (n := Nb) (F := fun i w v => IntV w v (ezb i) 3) ((fun _ _ h => Rw.to (sz := 2) (n := Nb) (F := (fun ι w v => KI w v (ab ι) ((fun ι => (xsb ι).take 3) ι) (ezb ι) 3)) (h) (fun i w v _ h => (fun _ _ _ h => And.right h) i w v h)) w v h) fun i w v _ h => IntV.more h (by omega)) rfl)
      (lbase (sContent (zz := (sel2 (coef X) ezb)) (ln := (sel2 X.length Nb)) (n := 2) (fun _ _ h => h) rfl (by omega) (by omega) hs2)
      (lbase (tSame dD nN (by omega) (hh) rfl)
      (lbase (tSame dD nN (by omega) (rfl) rfl)
      (lbase (sIs6 (z := (coef P)) (n := P.length) (k := 5) (kq := 5) (fun _ _ h => h) (fun _ _ h => h) (by omega) (by omega) (by omega))
      (lbase (sContent0 rfl)
      (lbase (sIZero nN rfl)
      (lbase (sWakes6)
      lnil)))))))))))))))))))))))))))))
    (ins_ok [.fact 0 (.one (.s)), .fact 1 (.one (.s)), .sub 2 (.agg [.b, .s]) [(0, 1, 3), (1, 1, 4), (1, 1, 5)]] ⟨fun _ _ h => Rw.is (sz := 2) (F := (fun ι w v => RawI w v (aa ι) (xsa ι))) (n := ma) h, fun _ _ h => Rw.is (sz := 2) (F := (fun ι w v => RawI w v (ab ι) (xsb ι))) (n := mb) h, ⟨fun _ _ h => RawI.is h, fun _ _ h => RawI.b1 h, fun _ _ h => RawI.sl h, fun _ _ h => RawI.len h, trivial⟩, trivial⟩) (fun _ _ _ h => h)

theorem walk {ma mb : Nat} {aa ab : Nat → Bool} {xsa xsb : Nat → List Nat} {w : World} {va vb s0 : Value} {ac : Bool} {xc : List Nat} (hna : ma ≤ 9223372036854775807) (hla : Rw 2 (fun i w v => RawI w v (aa i) (xsa i)) ma w va) (hnb : mb ≤ 9223372036854775807) (hlb : Rw 2 (fun i w v => RawI w v (ab i) (xsb i)) mb w vb) (hx0 : Sl w .u32 s0 xc) (ax0 : All 4294967296 xc) : Calls Tryz.prog 4 #[va, vb, .agg #[.bool ac, s0]] w (Bool_ w true) := by
  obtain ⟨eza, hza⟩ : ∃ ez : Nat → Int, ∀ j, sg (aa j) (Proofs.YtigkehblnlghkaaGreat.val 4294967296 ((xsa j).take 3)) = ez j := ⟨_, fun _ => rfl⟩
  obtain ⟨Na, hNna⟩ : ∃ N, min ma 8 = N := ⟨_, rfl⟩
  obtain ⟨ezb, hzb⟩ : ∃ ez : Nat → Int, ∀ j, sg (ab j) (Proofs.YtigkehblnlghkaaGreat.val 4294967296 ((xsb j).take 3)) = ez j := ⟨_, fun _ => rfl⟩
  obtain ⟨Nb, hNnb⟩ : ∃ N, min mb 8 = N := ⟨_, rfl⟩
  obtain ⟨cz, hcz⟩ : ∃ z, sg ac (Proofs.YtigkehblnlghkaaGreat.val 4294967296 (xc.take 2)) = z := ⟨_, rfl⟩
  obtain ⟨X, hX⟩ : ∃ L, trimL (mk (trimL (mk Na eza)).length fun i => coef (trimL (mk Na eza)) i * cz) = L := ⟨_, rfl⟩
  obtain ⟨P, hP⟩ : ∃ L, dvL (coef X) X.length (pcon (coef X) X.length) = L := ⟨_, rfl⟩
  have hla2 : (trimL (mk Na eza)).length ≤ 8 := by rw [trimL_mk]; exact Nat.le_trans (tl_le _ _) (by omega)
  have hlb2 : (trimL (mk Nb ezb)).length ≤ 8 := by rw [trimL_mk]; exact Nat.le_trans (tl_le _ _) (by omega)
  have hXl : X.length ≤ 8 := by rw [← hX, trimL_mk]; exact Nat.le_trans (tl_le _ _) hla2
  have hPl : P.length ≤ 8 := by rw [← hP, dvL, mk_length]; exact Nat.le_trans (tl_le _ _) hXl
  have hba : ∀ i, i < Na → Bd (eza i).natAbs 3 := fun i hi => by
    obtain ⟨p, c, rfl, _, h1⟩ := hla
    obtain ⟨_, _, _, l, _, _, s, _, _, h2⟩ := h1 i (by omega)
    rw [← hza i, sg_abs]
    exact Bd.row _ h2 3
  have hbb : ∀ i, i < Nb → Bd (ezb i).natAbs 3 := fun i hi => by
    obtain ⟨p, c, rfl, _, h1⟩ := hlb
    obtain ⟨_, _, _, l, _, _, s, _, _, h2⟩ := h1 i (by omega)
    rw [← hzb i, sg_abs]
    exact Bd.row _ h2 3
  have hbc : Bd cz.natAbs 2 := by rw [← hcz, sg_abs]; exact Bd.row _ ax0 2
  have hBx : ∀ i, i < (trimL (mk Na eza)).length → Bd (coef (trimL (mk Na eza)) i * cz).natAbs 5 := fun i hi => by
    have hi2 := hi
    rw [trimL_mk] at hi2
    have hle := tl_le eza Na
    rw [Int.natAbs_mul, coef_trim, coef_mk, if_pos (by omega)]
    exact Bd.mul (hba i (by omega)) hbc
  have htX : tl (coef X) X.length = X.length := by rw [← hX]; exact tl_trim _
  have hBX : ∀ i, i < X.length → Bd (coef X i).natAbs 5 := fun i _ => by
    rw [← hX, coef_trim, coef_mk]
    split
    · rename_i h; exact hBx i h
    · exact Nat.pow_pos (by omega)
  have e1 : (catL (sel2 (coef X) ezb) (sel2 X.length Nb) 1).length = X.length := by rw [catL_len]; exact Nat.zero_add _
  have e2 : (catL (sel2 (coef X) ezb) (sel2 X.length Nb) 2).length = X.length + Nb := by rw [catL_len, e1]; rfl
  have hs2 : ∀ j, j ≤ 2 → (catL (sel2 (coef X) ezb) (sel2 X.length Nb) j).length ≤ 1000000 := fun j hj => by
    match j, hj with
    | 0, _ => exact Nat.zero_le _
    | 1, _ => rw [e1]; omega
    | 2, _ => rw [e2]; omega
  have hg1 : gcdZ (coef (catL (sel2 (coef X) ezb) (sel2 X.length Nb) 1)) (catL (sel2 (coef X) ezb) (sel2 X.length Nb) 1).length = gcdZ (coef X) X.length := by
    have : catL (sel2 (coef X) ezb) (sel2 X.length Nb) 1 = mk X.length (coef X) := rfl
    rw [this, mk_length]
    exact gcdZ_congr fun i hi => by rw [coef_mk, if_pos hi]
  have hh : gcdF (gcdZ (coef X) X.length) (coef (trimL (mk Nb ezb))) (trimL (mk Nb ezb)).length = gcdZ (coef (catL (sel2 (coef X) ezb) (sel2 X.length Nb) 2)) (catL (sel2 (coef X) ezb) (sel2 X.length Nb) 2).length := by
    have h1 := gcdF_cat (catL (sel2 (coef X) ezb) (sel2 X.length Nb) 1) ezb Nb Nb (Nat.le_refl _)
    rw [hg1, e1] at h1
    rw [e2]
    refine Eq.trans ?_ h1.symm
    rw [gcdF_tl _ ezb Nb, trimL_mk]
    exact gcdF_congr fun i hi => by
      have hle := tl_le ezb Nb
      rw [coef_trim, coef_mk, if_pos (by omega)]
  have hhI : ((gcdF (gcdZ (coef X) X.length) (coef (trimL (mk Nb ezb))) (trimL (mk Nb ezb)).length : Nat) : Int) = ((gcdZ (coef (catL (sel2 (coef X) ezb) (sel2 X.length Nb) 2)) (catL (sel2 (coef X) ezb) (sel2 X.length Nb) 2).length : Nat) : Int) := by rw [hh]
  have hargs : ∀ Φ : Nat → World → Value → Prop, Φ 0 = (fun w v => Rw 2 (fun i w v => RawI w v (aa i) (xsa i)) ma w v) → Φ 1 = (fun w v => Rw 2 (fun i w v => RawI w v (ab i) (xsb i)) mb w v) → Φ 2 = (fun w v => RawI w v ac xc) → argsOk Φ (fun _ => False) w [.fact 0, .fact 1, .fact 2] [va, vb, .agg #[.bool ac, s0]] := fun Φ h0 h1 h2 => ⟨arg_poly hla h0, arg_poly hlb h1, arg_kp h2 (fun _ _ _ g h => RawI.kp h g) ⟨_, rfl, hx0, ax0⟩, trivial⟩
  rcases Nat.lt_or_ge 2 xc.length with h | h
  · exact law_true (path_1 hna hza hNna hnb hzb hNnb hla2 hlb2 hBx hX hXl htX hBX hP hPl hs2 hhI h hcz) (vs := [va, vb, .agg #[.bool ac, s0]]) (hargs _ rfl rfl rfl)
  · exact law_true (path_0 hna hza hNna hnb hzb hNnb hla2 hlb2 hBx hX hXl htX hBX hP hPl hs2 hhI h (by rw [← hcz, List.take_of_length_le h])) (vs := [va, vb, .agg #[.bool ac, s0]]) (hargs _ rfl rfl rfl)
set_option maxRecDepth 100000 in
theorem lifted (os : Os) (started : os.Started) (H : Type) (enc : TypeId × Value → H) :
    ReturnsInHanded {} Tryz.checked os 4 .any (Rows.pdivContentsSpec.pre6 enc Tryz.prog Tryz.f4 Rows.pdivContentsRow.domain false) (Rows.pdivContentsSpec.post enc Tryz.prog Tryz.f4 false true false false) := by
  refine returnsInHanded_of_change (C := Tryz.checked) Tryz.own started (by kernel_rfl) Tryz.func4
    (ChangeSpec.witness6 (enc := enc) (C := Tryz.checked) false ⟨#[], #[.slice none 0 0, .slice none 0 0, .agg #[.bool false, .slice none 0 0]], []⟩ 8 (by kernel_rfl) (by kernel_rfl) (by kernel_rfl) (by kernel_rfl)) ?_
  intro W base args ds gs before hval0 hW _ _
  have hval : ∀ (j : Nat) t v, Tryz.f4.params[j]? = some t → args[j]? = some v → Value.okWide Tryz.prog W .any base t v := hval0
  obtain ⟨p, q, hA0, hV, rfl, _, _⟩ := id hW
  have hA : DataW.TrodAll enc Tryz.prog W 0 (fun _ => true) true Tryz.f4.params.toList args.toList ds p := hA0
  rw [Tryz.params4] at hA hval
  obtain ⟨v0, vs0, d0, ds0, p0, q0, hargs, rfl, rfl, h0, r0⟩ := trodAll_cons hA
  obtain ⟨v1, vs1, d1, ds1, p1, q1, rfl, rfl, rfl, h1, r1⟩ := trodAll_cons r0
  obtain ⟨v2, vs2, d2, ds2, p2, q2, rfl, rfl, rfl, h2, r2⟩ := trodAll_cons r1
  obtain ⟨rfl, rfl, rfl⟩ := trodAll_nil r2
  obtain rfl : args = #[v0, v1, v2] := by cases args; simp_all
  obtain ⟨n0, a0, xs0, l0, s0⟩ := poly_of_trod h0 (hval 0 23 v0 rfl rfl)
  obtain ⟨n1, a1, xs1, l1, s1⟩ := poly_of_trod h1 (hval 1 23 v1 rfl rfl)
  obtain ⟨b2, w2, xs2, rfl, s2, a2⟩ := int_of_trod h2 (hval 2 26 v2 rfl rfl)
  refine (walk l0 s0 l1 s1 s2 a2).mono fun e W' ⟨he, hg⟩ => ?_
  subst he
  refine ⟨_, rfl, law_post Tryz.laidOut rfl (by kernel_rfl) Tryz.underlying4 ?_ ?_ hW hg⟩
  · rw [Tryz.params4]; decide +kernel
  · rw [Tryz.params4]
    intro ds h
    match ds, h with
    | [_, _, _], _ => rfl

theorem holds : Rows.PdivContentsSaid :=
  OpenClaim.holds_of_wide 4 Tryz.f4 rfl rfl rfl rfl rfl rfl rfl ⟨rfl, rfl, rfl, rfl, rfl⟩ rfl rfl rfl rfl rfl (by kernel_rfl) Tryz.func4 (by kernel_rfl)
    (of_decide_eq_true (by kernel_rfl)) (by unfold Func.isWrapper; first | (rw [if_pos (by decide +kernel)]; kernel_rfl) | (rw [if_neg (by decide +kernel)]; exact ⟨rfl, rfl⟩))
    (fun os started H enc _ => lifted os started H enc)

end Go.Proofs.YtigkehblnlghkaaGreat.vcontents
