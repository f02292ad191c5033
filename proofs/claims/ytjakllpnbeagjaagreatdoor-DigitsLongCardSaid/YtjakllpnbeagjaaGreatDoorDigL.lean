/- Long texts of digits. -/
import Derived.Test.YtjakllpnbeagjaaGreatDoorDigZ
namespace Go.Proofs.YtjakllpnbeagjaaGreatDoor
open Go.RowKit
def longL (n : Nat) : List UInt8 := (List.range n).map fun i => UInt8.ofNat (49 + i % 9)
def longS (n : Nat) : ByteArray := ⟨(longL n).toArray⟩
def oneS (j : Nat) : ByteArray := ⟨#[UInt8.ofNat (49 + j % 9)]⟩
def negS (n : Nat) : ByteArray := ⟨(45 :: longL n).toArray⟩
theorem longL_len (n : Nat) : (longL n).length = n := by simp [longL]
theorem longS_size (n : Nat) : (longS n).size = n := by rw [Lib.size_eq]; exact longL_len n
theorem longS_succ (j : Nat) : longS j ++ oneS j = longS (j + 1) := by
  apply str_ext
  rw [app_list]
  show longL j ++ _ = longL (j + 1)
  unfold longL
  rw [List.range_succ, List.map_append]; rfl
theorem negS_cat (n : Nat) : (⟨[45].toArray⟩ : ByteArray) ++ longS n = negS n := by
  apply str_ext
  rw [app_list]; rfl
theorem long_chr (i : Nat) : (UInt8.ofNat (49 + i % 9)).toNat = 49 + i % 9 := by
  have h : i % 9 < 9 := Nat.mod_lt _ (by decide)
  rw [UInt8.toNat_ofNat']
  omega
theorem longL_all (n : Nat) : allD (longL n) = true := by
  simp only [allD, longL, List.all_map, List.all_eq_true, Function.comp_apply, long_chr, Bool.and_eq_true, decide_eq_true_eq]
  intro i _
  omega
theorem longL_head {n : Nat} (h : 1 ≤ n) : (longL n).head? = some 49 := by
  obtain ⟨m, rfl⟩ : ∃ m, n = m + 1 := ⟨n - 1, by omega⟩
  unfold longL
  rw [List.range_succ_eq_map]
  simp
theorem longL_digT {n : Nat} (h : 1 ≤ n) : digT (decN 0 (longL n)) = longL n :=
  digT_of (longL_all n) (fun e => by have := longL_len n; rw [e] at this; simp at this; omega) (by rw [longL_head h]; decide)
theorem longL_pos {n : Nat} (h : 1 ≤ n) : decN 0 (longL n) ≠ 0 := fun e => by
  have h1 := longL_digT h
  rw [e] at h1
  have h2 := longL_head h
  rw [← h1] at h2
  revert h2; decide
theorem long_no45 {n : Nat} (h : 1 ≤ n) : (longL n).head? ≠ some 45 := by rw [longL_head h]; decide
theorem long_isNum {n : Nat} (h : 1 ≤ n) : isNum (longS n).data.toList = decide (n ≤ 400) := by
  show isNum (longL n) = _
  unfold isNum isN
  rw [unsig_no (long_no45 h), longL_len, longL_all, decide_eq_true h]; simp
theorem neg_isNum {n : Nat} (h : 1 ≤ n) : isNum (negS n).data.toList = decide (n ≤ 400) := by
  show isNum (45 :: longL n) = _
  unfold isNum isN
  rw [unsig_cons, longL_len, longL_all, decide_eq_true h]; simp
theorem long_num {n : Nat} (h : 1 ≤ n) : sNum (longS n).data.toList = (decN 0 (longL n) : Int) := by
  show sNum (longL n) = _
  unfold sNum
  rw [minus_no (long_no45 h), unsig_no (long_no45 h), if_neg (by simp)]
theorem neg_num (n : Nat) : sNum (negS n).data.toList = -(decN 0 (longL n) : Int) := by
  show sNum (45 :: longL n) = _
  unfold sNum
  rw [minus_cons, unsig_cons, if_pos rfl]
theorem long_txt {n : Nat} (h : 1 ≤ n) : txtS (decN 0 (longL n) : Int) = longS n := by
  rw [txtS_nat, longL_digT h]; rfl
theorem neg_txt {n : Nat} (h : 1 ≤ n) : txtS (-(decN 0 (longL n) : Int)) = negS n := by
  have h1 := longL_pos h
  unfold txtS txt
  rw [if_pos (by omega), Int.natAbs_neg, Int.natAbs_natCast, longL_digT h]; rfl
theorem bd400 {s : ByteArray} {z : Int} (h : s = txtS z) : (txtS z).toList == s.toList := by rw [h]; simp
end Go.Proofs.YtjakllpnbeagjaaGreatDoor
namespace Go.Proofs.YtjakllpnbeagjaaGreatDoor.Sym
open Go.RowKit
def mRem : Op → Option (List Operand)
  | .binOp .rem _ x y _ => some [x, y]
  | _ => none
section
variable {P : Program} {Φ : Nat → World → Value → Prop} {p q x y : Nat}
theorem qRemC {a b : Nat} {bi : Int} (hb : (b : Int) = bi) (h0 : b ≠ 0) (hp : ∀ w v, Φ p w v → v = .int .i64 (a : Int)) (h1 : a ≤ 9223372036854775807) (hx : Φ x = fun _ v => v = .int .i64 ((a % b : Nat) : Int)) : SiteOk Φ P ⟨0, [.fact p, .lit (.ci .i64 bi)], [⟨.one .i, [(0, 0, x)]⟩], .quiet mRem⟩ := fun X w ac o xs _ hm ha => by
  subst hb
  unfold mRem at hm
  split at hm
  case h_2 => cases hm
  rename_i t y z yt ho
  simp only [Option.some.injEq] at hm
  subst hm
  refine ⟨.int .i64 ((a % b : Nat) : Int), w, bin_run' ho (hp _ _ (ha.1 w (Off.refl _ _))) ha.2.1 (by simp) (by simp) ?_, grown_refl w none, ⟨⟨⟨⟨_, rfl⟩, fun _ h => by cases h⟩, fun r hr w1 hw => ?_⟩, trivial⟩⟩
  · show (binOp .rem t (.int .i64 (a : Int)) (.int .i64 (b : Int))).run P w = _
    have e : ((a : Int).tmod (b : Int)) = ((a % b : Nat) : Int) := by rw [Int.tmod_eq_emod_of_nonneg (by omega)]; exact (Int.natCast_emod a b).symm
    have hl : a % b ≤ a := Nat.mod_le a b
    simp only [binOp]
    rw [if_neg (by simp)]
    unfold Op.intDiv
    simp only []
    rw [if_neg (by omega), e]; rfl
  · simp only [List.mem_singleton] at hr; subst hr
    show Φ x w1 _; rw [hx]; rfl
theorem qAddL {a b c : Int} (hp : ∀ w v, Φ p w v → v = .int .i64 a) (hc : b + a = c) (h1 : -9223372036854775808 ≤ c) (h2 : c ≤ 9223372036854775807) (hx : Φ x = fun _ v => v = .int .i64 c) : SiteOk Φ P ⟨0, [.lit (.ci .i64 b), .fact p], [⟨.one .i, [(0, 0, x)]⟩], .quiet (mBin .add)⟩ := fun X w ac o xs _ hm ha => by
  obtain ⟨t, y, z, yt, ho, rfl⟩ := mBin_op hm
  subst hc
  have h3 : ac.eval y = .int .i64 b := ha.1
  refine ⟨.int .i64 (b + a), w, bin_run' ho h3 (hp _ _ (ha.2.1 w (Off.refl _ _))) (by simp) (by simp) ?_, grown_refl w none, ⟨⟨⟨⟨_, rfl⟩, fun _ h => by cases h⟩, fun r hr w1 hw => ?_⟩, trivial⟩⟩
  · show (binOp .add t (.int .i64 b) (.int .i64 a)).run P w = _
    simp [binOp, Op.intArith, IntWalk.i64_in _ ⟨h1, h2⟩]
  · simp only [List.mem_singleton] at hr; subst hr
    show Φ x w1 _; rw [hx]; rfl
theorem qConvB {A B : TypeId} {a : Nat} (hA : (P.underlying A).isSome = true) (hB : P.underlying B = some (.int .u8)) (hp : ∀ w v, Φ p w v → v = .int .i64 (a : Int)) (h : a < 256) (hx : Φ x = fun _ v => v = .int .u8 (a : Int)) (hy : Φ y = fun _ v => v = .agg #[.int .u8 (a : Int)]) : SiteOk Φ P ⟨0, [.fact p], [⟨.one .nk, [(0, 0, x), (0, 2, y)]⟩], .quiet (mConv A B)⟩ := fun X w ac o xs _ hm ha => by
  unfold mConv at hm
  split at hm
  case h_2 => cases hm
  rename_i sA dB y ho
  split at hm
  case isFalse => cases hm
  rename_i hc
  obtain ⟨rfl, rfl⟩ := hc
  simp only [Option.some.injEq] at hm
  subst hm
  have hv : ac.eval y = .int .i64 (a : Int) := hp _ _ (ha.1 w (Off.refl _ _))
  refine ⟨.int .u8 (a : Int), w, ?_, grown_refl w none, ⟨⟨⟨⟨_, _, rfl⟩, fun _ h => by cases h⟩, fun r hr w1 hw => ?_⟩, trivial⟩⟩
  · unfold execOp
    obtain ⟨d, hd⟩ := Option.isSome_iff_exists.mp hA
    have hw : IntKind.u8.wrap (a : Int) = (a : Int) := by simp [IntKind.wrap, IntKind.bits, IntKind.signed]; omega
    have hr : (convert sA dB (.int .i64 (a : Int))).run P w = .ok (.int .u8 (a : Int)) w := by
      simp [convert, run_underlying hd, run_underlying hB, Conv.intToInt, hw]
    simp [ho, hv, hr]
  · simp only [List.mem_cons, List.not_mem_nil, or_false] at hr
    rcases hr with rfl | rfl
    · show Φ x w1 _; rw [hx]; rfl
    · show Φ _ w1 _; rw [hy]; rfl
theorem qStrB {A E B : TypeId} {a : Nat} (hA : P.underlying A = some (.slice E)) (hE : P.underlying E = some (.int .u8)) (hB : P.underlying B = some .string) (hp : ∀ w v, Φ p w v → v = .agg #[.int .u8 (a : Int)]) (hx : Φ x = fun _ v => v = .string ⟨#[UInt8.ofNat a]⟩) : SiteOk Φ P ⟨0, [.row 1 [p]], [⟨.one .t, [(0, 0, x)]⟩], .quiet (mConv A B)⟩ := fun X w ac o xs _ hm ha => by
  unfold mConv at hm
  split at hm
  case h_2 => cases hm
  rename_i sA dB y ho
  split at hm
  case isFalse => cases hm
  rename_i hc
  obtain ⟨rfl, rfl⟩ := hc
  simp only [Option.some.injEq] at hm
  subst hm
  obtain ⟨g, hv, ⟨l, h1, h2, h3⟩, -⟩ := ha.1
  have hv' : ac.eval y = .slice (some ⟨g, 0, none⟩) 1 1 := hv
  have hc := hp _ _ (h3 w (Off.refl _ _))
  simp only [Value.agg.injEq] at hc
  have hl : l = [.int .u8 (a : Int)] := by have := congrArg Array.toList hc; simpa using this
  subst hl
  have hcell : w.cell? ⟨g, 0 + 0, none⟩ = some (.int .u8 (a : Int)) := h2 0 _ rfl
  have hr := run_convert_bytes_arg (P := P) w sA E hA hE g 0 1 1 [(a : Int)] rfl (fun i hi => (by omega : 0 = i) ▸ hcell) dB hB
  have hs : strOfNums [(a : Int)] = ⟨#[UInt8.ofNat a]⟩ := by
    apply str_ext
    have := Lib.strOfNums_toList [(a : Int)]
    rw [Lib.toList_data] at this
    rw [this]
    simp [Lib.bytesOf]
  rw [hs] at hr
  refine ⟨.string ⟨#[UInt8.ofNat a]⟩, w, ?_, grown_refl w none, ⟨⟨⟨⟨_, rfl⟩, fun _ h => by cases h⟩, fun r hr w1 hw => ?_⟩, trivial⟩⟩
  · unfold execOp
    simp [ho, hv', hr]
  · simp only [List.mem_singleton] at hr; subst hr
    show Φ x w1 _; rw [hx]; rfl
end
end Go.Proofs.YtjakllpnbeagjaaGreatDoor.Sym
