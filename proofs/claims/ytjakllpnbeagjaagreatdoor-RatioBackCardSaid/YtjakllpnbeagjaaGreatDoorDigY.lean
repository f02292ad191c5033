/- A rational's text, read again. -/
import Derived.Test.YtjakllpnbeagjaaGreatDoorDigX
import Derived.Test.YtjakllpnbeagjaaGreatDoorRatP
namespace Go.Proofs.YtjakllpnbeagjaaGreatDoor
theorem no47_digits {l : List UInt8} (h : allD l = true) : ∀ c, c ∈ l → c ≠ 47 := fun c hc e => by
  subst e
  simp only [allD, List.all_eq_true, Bool.and_eq_true, decide_eq_true_eq] at h
  exact absurd (h _ hc).1 (by decide)
theorem no47_txt (z : Int) : ∀ c, c ∈ txt z → c ≠ 47 := by
  intro c hc
  unfold txt at hc
  split at hc
  · rcases List.mem_cons.1 hc with rfl | hc
    · decide
    · exact no47_digits (digT_allD _) c hc
  · exact no47_digits (digT_allD _) c hc
theorem slash_app : ∀ {l : List UInt8} (m : List UInt8), (∀ c, c ∈ l → c ≠ 47) → slashAt (l ++ 47 :: m) = l.length
  | [], m, _ => by simp [slashAt]
  | c :: l, m, h => by
    have ih := slash_app (l := l) m (fun d hd => h d (List.mem_cons_of_mem _ hd))
    have hc := h c (List.mem_cons_self ..)
    have e : slashAt (c :: (l ++ 47 :: m)) = slashAt (l ++ 47 :: m) + 1 := by simp [slashAt, hc]
    rw [List.cons_append, e, ih, List.length_cons]
theorem slash_none : ∀ {l : List UInt8}, (∀ c, c ∈ l → c ≠ 47) → hasSlash l = false
  | [], _ => rfl
  | c :: l, h => by
    have ih := slash_none (l := l) (fun d hd => h d (List.mem_cons_of_mem _ hd))
    have hc := h c (List.mem_cons_self ..)
    have e : slashAt (c :: l) = slashAt l + 1 := by simp [slashAt, hc]
    unfold hasSlash at ih ⊢
    rw [e, List.length_cons]
    simpa using ih
theorem isNum_digT {n m : Nat} (h : n < 10 ^ m) (h1 : 1 ≤ m) (hm : m ≤ 400) : isNum (digT n) = true ∧ minusB (digT n) = false ∧ sNum (digT n) = (n : Int) := by
  have e := unsig_no (digT_head n)
  have h2 := minus_no (digT_head n)
  refine ⟨?_, h2, ?_⟩
  · unfold isNum; rw [e]; exact isN_of (digT_len1 _) (Nat.le_trans (digT_len h h1) hm) (digT_allD _)
  · unfold sNum; rw [h2, e, digT_dec]; simp
theorem rd_frac {q : Rat} {k : Nat} (h1 : Bd q.num.natAbs k) (h2 : Bd q.den k) (hk : k ≤ 39) : rCode (fracT q) = 0 ∧ rQ (fracT q) = q := by
  have b1 : q.num.natAbs < 10 ^ (10 * k + 1) := Nat.lt_of_lt_of_le (bd_pow h1) (Nat.pow_le_pow_right (by omega) (by omega))
  have b2 : q.den < 10 ^ (10 * k + 1) := Nat.lt_of_lt_of_le (bd_pow h2) (Nat.pow_le_pow_right (by omega) (by omega))
  have n1 := isNum_txt b1 (by omega) (by omega)
  obtain ⟨n2, n3, n4⟩ := isNum_digT b2 (by omega) (by omega)
  by_cases hd : q.den = 1
  · have e : fracT q = txt q.num := by unfold fracT; rw [if_pos hd]
    have hs := slash_none (no47_txt q.num)
    rw [e]
    refine ⟨?_, ?_⟩
    · unfold rCode; rw [hs, if_neg (by simp), if_pos n1]
    · unfold rQ; rw [hs, if_neg (by simp), sNum_txt]
      have := Rat.num_divInt_den q
      rw [hd] at this
      exact this
  · have e : fracT q = txt q.num ++ 47 :: digT q.den := by unfold fracT; rw [if_neg hd]
    have hs := slash_app (digT q.den) (no47_txt q.num)
    have hh : hasSlash (txt q.num ++ 47 :: digT q.den) = true := by unfold hasSlash; rw [hs]; simp
    have ht : rTop (txt q.num ++ 47 :: digT q.den) = txt q.num := by unfold rTop; rw [hs]; simp
    have hu : rUnd (txt q.num ++ 47 :: digT q.den) = digT q.den := by unfold rUnd; rw [hs]; simp
    rw [e]
    refine ⟨?_, ?_⟩
    · unfold rCode
      rw [hh, if_pos rfl, ht, hu, if_pos n1, n3, n2, n4, if_neg (by simp), if_neg (by have := q.den_pos; omega)]
    · unfold rQ
      rw [hh, if_pos rfl, ht, hu, sNum_txt, n4]
      exact Rat.num_divInt_den q
end Go.Proofs.YtjakllpnbeagjaaGreatDoor
namespace Go.Proofs.YtjakllpnbeagjaaGreatDoor.Sym
open Go.RowKit
/-- The text of a rational of not too many digits. -/
def FracB (q : Rat) (k : Nat) (_ : World) (v : Value) : Prop := v = .string (fracS q) ∧ Bd q.num.natAbs k ∧ Bd q.den k
section
variable {Φ : Nat → World → Value → Prop} {p x x1 x2 k : Nat} {q : Rat}
theorem derive0 {p : Nat} (hp : Φ p = fun w v => NorV w v 0 0) (Y : Nat → Prop) (w : World) (v : Value) (h : (Arg.parts (.agg [.lit (.cb false), .lit .nl]) []).ok Φ Y w v) : (Arg.fact p).ok Φ Y w v := fun w1 hw => by
  rw [hp]
  obtain ⟨⟨us, rfl, h2⟩, _⟩ := h
  match us, h2 with
  | [v0, v1], h2 =>
    obtain ⟨e0, e1, _⟩ := h2
    have e0' : v0 = .bool false := e0
    have e1' : v1 = .slice none 0 0 := e1
    subst e0'; subst e1'
    exact ⟨⟨none, 0, by simp [dig, digF], by simpa [dig, digF] using Sl.nil w1 .u32⟩, by simp [Bd]⟩
theorem sFractionB (hp : ∀ w v, Φ p w v → NorQ w v q k) (hk : k ≤ 1000) (hx : Φ x = FracB q k) : SiteOk Φ Tryz.prog ⟨24, [.fact p], [⟨.one .t, [(0, 0, x)]⟩], false⟩ := fun X w vs hX ha => by
  match vs, ha with
  | [v], ha =>
    have h := hp _ _ (get ha.1)
    obtain ⟨_, _, _, _, _, _, _, _, rfl, h1, h2⟩ := id h
    have hs : SiteOk (ph [fun w v => NorQ w v q k, fun _ v => v = .string (fracS q)]) Tryz.prog ⟨24, [.fact 0], [⟨.one .t, [(0, 0, 1)]⟩], false⟩ := sFraction (fun _ _ h => h) hk rfl
    exact viaT hs (fun w v h => hp w v h) (outs_t (fun w v h => by rw [hx]; exact ⟨h, h1.bdd, h2.bdd⟩)) X w _ hX ha
theorem sRParseF (hp : ∀ w v, Φ p w v → FracB q k w v) (hk : k ≤ 39) (hx : Φ x = fun w v => NorQ w v q 100) (hx1 : Φ x1 = fun w v => NorV w v q.num 100) (hx2 : Φ x2 = fun w v => NorV w v (q.den : Int) 100) :
    SiteOk Φ Tryz.prog ⟨35, [.fact p], [⟨qS, [(0, 0, x), (0, 2, x1), (2, 2, x2)]⟩, ⟨.one (.lit (.ci .i64 0)), []⟩], true⟩ := fun X w vs hX ha => by
  match vs, ha with
  | [v], ha =>
    obtain ⟨e, b1, b2⟩ := hp _ _ (get ha.1)
    obtain ⟨h1, h2⟩ := rd_frac b1 b2 hk
    have hsz : (fracS q).size ≤ 90000 := by
      have s1 := bd_size (z := q.num) b1 (by omega)
      have s2 := bd_size (z := (q.den : Int)) b2 (by omega)
      by_cases hd : q.den = 1
      · rw [fracS_one hd]; omega
      · rw [← fracS_cat hd, ByteArray.size_append, ByteArray.size_append, show (⟨[47].toArray⟩ : ByteArray).size = 1 from rfl]; omega
    exact sRParse0 (s := fracS q) (fun w v h => (hp w v h).1) hsz h1 h2 hx hx1 hx2 X w _ hX ha
end
end Go.Proofs.YtjakllpnbeagjaaGreatDoor.Sym
