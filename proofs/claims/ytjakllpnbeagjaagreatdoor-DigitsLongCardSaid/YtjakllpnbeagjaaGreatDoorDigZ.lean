/- Texts with noughts ahead; a number within bounds. -/
import Derived.Test.YtjakllpnbeagjaaGreatDoorDigX
namespace Go.Proofs.YtjakllpnbeagjaaGreatDoor
open Go.RowKit
/-- A number as one from 0 to n - 1. -/
def wi (v : Int) (n : Nat) : Nat := (if v.tmod n < 0 then v.tmod n + n else v.tmod n).toNat
theorem wi_facts (v : Int) {n : Nat} (hn : 1 ≤ n) : v.tmod n < n ∧ -(n : Int) < v.tmod n := by
  refine ⟨Int.tmod_lt_of_pos v (show (0 : Int) < n by omega), ?_⟩
  rcases Int.le_total 0 v with h | h
  · have := Int.tmod_nonneg (b := (n : Int)) h; omega
  · have e := Int.neg_tmod (a := -v) (b := (n : Int))
    rw [Int.neg_neg] at e
    have := Int.tmod_lt_of_pos (-v) (show (0 : Int) < n by omega)
    omega
theorem wi_lt (v : Int) {n : Nat} (hn : 1 ≤ n) : wi v n < n := by
  obtain ⟨t, t2⟩ := wi_facts v hn
  unfold wi
  split <;> omega
theorem Within_eq (v : Int) (n : Nat) (w : World) (hn : 1 ≤ n) (hn2 : n ≤ 1000000) :
    Calls Tryz.prog 20 #[.int .i64 v, .int .i64 n] w fun e w' => e = .returned (.int .i64 (wi v n)) ∧ w = w' := by
  have h1 : ¬ (n : Int) < 1 := by omega
  have h2 : (1 : Int) ≤ (n : Int) := by omega
  obtain ⟨t, t2⟩ := wi_facts v hn
  by_cases hk : v.tmod n < 0
  · have E : Hid ((wi v n : Int) = v.tmod n + n) := Lib.hid (by unfold wi; rw [if_pos hk]; omega)
    go_enter Tryz.func20, Tryz.ntmps20
    go_wp2
    go_ret
    exact ⟨ret_int (by rw [E.out]), rfl⟩
  · have E : Hid ((wi v n : Int) = v.tmod n) := Lib.hid (by unfold wi; rw [if_neg hk]; omega)
    go_enter Tryz.func20, Tryz.ntmps20
    go_wp2
    go_ret
    exact ⟨ret_int (by rw [E.out]), rfl⟩
def digS (z : Int) : ByteArray := ⟨(digT z.natAbs).toArray⟩
/-- j noughts ahead. -/
def zS (j : Nat) (b : ByteArray) : ByteArray := ⟨(List.replicate j 48 ++ b.data.toList).toArray⟩
theorem zS_zero (b : ByteArray) : zS 0 b = b := by apply str_ext; simp [zS]
theorem zS_succ (j : Nat) (b : ByteArray) : (⟨[48].toArray⟩ : ByteArray) ++ zS j b = zS (j + 1) b := by
  apply str_ext
  rw [app_list]
  simp [zS, List.replicate_succ]
theorem zS_size (j : Nat) (b : ByteArray) : (zS j b).size = j + b.size := by
  rw [Lib.size_eq, Lib.size_eq]; simp [zS]
theorem txtS_pos (z : Int) : 0 < (txtS z).size := by
  rw [Lib.size_eq]
  show 0 < (txt z).length
  have := digT_len1 z.natAbs
  unfold txt
  split
  · simp
  · omega
theorem txtS_ne (z : Int) : ((txtS z).toList == (⟨[].toArray⟩ : ByteArray).toList) = false := by
  have h := txtS_pos z
  rw [Lib.size_eq] at h
  rw [Lib.toList_data, Lib.toList_data, beq_eq_false_iff_ne]
  intro e
  rw [e] at h
  simp at h
theorem txtS_neg {z : Int} (h : z < 0) : ((txtS z).data.toList.getD 0 0).toNat = 45 := by
  show ((txt z).getD 0 0).toNat = 45
  unfold txt
  rw [if_pos h]; rfl
theorem digT_first (n : Nat) : ((digT n).getD 0 0).toNat ≠ 45 := by
  have h := digT_allD n
  have h1 := digT_len1 n
  cases hd : digT n with
  | nil => rw [hd] at h1; simp at h1
  | cons c l =>
    rw [hd] at h
    simp only [allD, List.all_cons, Bool.and_eq_true, decide_eq_true_eq] at h
    simp only [List.getD_cons_zero]
    omega
theorem txtS_nneg {z : Int} (h : ¬ z < 0) : ((txtS z).data.toList.getD 0 0).toNat ≠ 45 := by
  show ((txt z).getD 0 0).toNat ≠ 45
  unfold txt
  rw [if_neg h]
  exact digT_first _
theorem txtS_tail {z : Int} (h : z < 0) : (txtS z).extract 1 (txtS z).size = digS z := by
  apply str_ext
  rw [Lib.extract_to_end]
  show (txt z).drop 1 = _
  unfold txt
  rw [if_pos h]; rfl
theorem txtS_num {z : Int} {m : Nat} (h : z.natAbs < 10 ^ m) (h1 : 1 ≤ m) (hm : m ≤ 400) : isNum (txtS z).data.toList = true ∧ sNum (txtS z).data.toList = z := ⟨isNum_txt h h1 hm, sNum_txt z⟩
theorem allD_zeros (j : Nat) {l : List UInt8} (h : allD l = true) : allD (List.replicate j 48 ++ l) = true := by
  simp only [allD, List.all_append, Bool.and_eq_true] at h ⊢
  refine ⟨List.all_eq_true.2 fun c hc => ?_, h⟩
  rw [(List.mem_replicate.1 hc).2]; decide
theorem decN_zeros : ∀ (j : Nat) (l : List UInt8), decN 0 (List.replicate j 48 ++ l) = decN 0 l
  | 0, _ => rfl
  | j + 1, l => decN_zeros j l
theorem zeros_neg {z : Int} {m j : Nat} (h0 : z < 0) (h : z.natAbs < 10 ^ m) (h1 : 1 ≤ m) (hm : j + m ≤ 400) : isNum ((⟨[45].toArray⟩ : ByteArray) ++ zS j (digS z)).data.toList = true ∧ sNum ((⟨[45].toArray⟩ : ByteArray) ++ zS j (digS z)).data.toList = z := by
  rw [app_list]
  show isNum (45 :: (List.replicate j 48 ++ digT z.natAbs)) = true ∧ sNum (45 :: (List.replicate j 48 ++ digT z.natAbs)) = z
  have hl := digT_len h h1
  have hl1 := digT_len1 z.natAbs
  refine ⟨?_, ?_⟩
  · unfold isNum
    rw [unsig_cons]
    exact isN_of (by simp; omega) (by simp; omega) (allD_zeros j (digT_allD _))
  · unfold sNum
    rw [minus_cons, if_pos rfl, unsig_cons, decN_zeros, digT_dec]; omega
theorem head_digit {l : List UInt8} (h : allD l = true) : l.head? ≠ some 45 := fun e => by
  cases l with
  | nil => cases e
  | cons c l =>
    simp only [List.head?_cons, Option.some.injEq] at e
    subst e
    simp only [allD, List.all_cons, Bool.and_eq_true, decide_eq_true_eq] at h
    exact absurd h.1.1 (by decide)
theorem zeros_nneg {z : Int} {m j : Nat} (h0 : ¬ z < 0) (h : z.natAbs < 10 ^ m) (h1 : 1 ≤ m) (hm : j + m ≤ 400) : isNum (zS j (txtS z)).data.toList = true ∧ sNum (zS j (txtS z)).data.toList = z := by
  have e : txt z = digT z.natAbs := by unfold txt; rw [if_neg h0]
  show isNum (List.replicate j 48 ++ txt z) = true ∧ sNum (List.replicate j 48 ++ txt z) = z
  rw [e]
  have hl := digT_len h h1
  have hl1 := digT_len1 z.natAbs
  have ha := allD_zeros j (digT_allD z.natAbs)
  have hh := head_digit ha
  refine ⟨?_, ?_⟩
  · unfold isNum
    rw [unsig_no hh]
    exact isN_of (by simp; omega) (by simp; omega) ha
  · unfold sNum
    rw [minus_no hh, if_neg (by simp), unsig_no hh, decN_zeros, digT_dec]; omega
theorem digS_size {z : Int} {m : Nat} (h : z.natAbs < 10 ^ m) (h1 : 1 ≤ m) : (digS z).size ≤ m := by
  rw [Lib.size_eq]; exact digT_len h h1
end Go.Proofs.YtjakllpnbeagjaaGreatDoor
namespace Go.Proofs.YtjakllpnbeagjaaGreatDoor.Sym
open Go.RowKit
section
variable {P : Program} {Φ : Nat → World → Value → Prop} {p q x : Nat}
theorem IsJ {v : Value} {z : Int} (h : v = .int .i64 z) : (CSh.one .i).is v := ⟨⟨z, h⟩, fun l e => by rw [h] at e; cases e⟩
theorem qSubC {a b c : Int} (hp : ∀ w v, Φ p w v → v = .int .i64 a) (hc : a - b = c) (h1 : -9223372036854775808 ≤ c) (h2 : c ≤ 9223372036854775807) (hx : Φ x = fun _ v => v = .int .i64 c) : SiteOk Φ P ⟨0, [.fact p, .lit (.ci .i64 b)], [⟨.one .i, [(0, 0, x)]⟩], .quiet (mBin .sub)⟩ := fun X w ac o xs _ hm ha => by
  obtain ⟨t, y, z, yt, ho, rfl⟩ := mBin_op hm
  subst hc
  refine ⟨.int .i64 (a - b), w, bin_run' ho (hp _ _ (ha.1 w (Off.refl _ _))) ha.2.1 (by simp) (by simp) ?_, grown_refl w none, ⟨⟨⟨⟨_, rfl⟩, fun _ h => by cases h⟩, fun r hr w1 hw => ?_⟩, trivial⟩⟩
  · show (binOp .sub t (.int .i64 a) (.int .i64 b)).run P w = _
    simp [binOp, Op.intArith, IntWalk.i64_in _ ⟨h1, h2⟩]
  · simp only [List.mem_singleton] at hr; subst hr
    show Φ x w1 _; rw [hx]; rfl
theorem sWithinE {m : Int} {n k : Nat} {ni : Int} (hn : (n : Int) = ni) (hp : ∀ w v, Φ p w v → v = .int .i64 m) (h1 : 1 ≤ n) (h2 : n ≤ 1000000) (hw : wi m n = k) (hx : Φ x = fun _ v => v = .int .i64 (k : Int)) : SiteOk Φ Tryz.prog ⟨20, [.fact p, .lit (.ci .i64 ni)], [⟨.one .i, [(0, 0, x)]⟩], false⟩ := site2 fun X w v u g1 g2 => by
  subst hn
  rw [hp _ _ (get g1)]
  have h3 : u = .int .i64 (n : Int) := g2
  subst h3
  refine (Within_eq m n w h1 h2).mono fun e w' h => ?_
  obtain ⟨rfl, rfl⟩ := h
  rw [hw]
  exact ⟨grown_refl _ _, [_], rfl, ⟨⟨⟨_, rfl⟩, fun _ h => by cases h⟩, fun q hq w1 hw => by
    simp only [List.mem_singleton] at hq; subst hq
    show Φ x w1 _; rw [hx]; rfl⟩, trivial⟩
end
end Go.Proofs.YtjakllpnbeagjaaGreatDoor.Sym
