/- Decimal texts of numbers: plain mathematics. -/
import Derived.Test.YtjakllpnbeagjaaGreatDoorDigA
namespace Go.Proofs.YtjakllpnbeagjaaGreatDoor
/-- Digits as text, the highest first; a number's. -/
def chrs (ds : List Nat) : List UInt8 := ds.map fun d => UInt8.ofNat (48 + d)
def digT (n : Nat) : List UInt8 := if n = 0 then [48] else chrs (dig 10 n).reverse
def txt (z : Int) : List UInt8 := if z < 0 then 45 :: digT z.natAbs else digT z.natAbs
theorem chr_val {d : Nat} (h : d < 10) : (UInt8.ofNat (48 + d)).toNat = 48 + d := by
  rw [UInt8.toNat_ofNat']; omega
theorem allD_chrs {ds : List Nat} (h : All 10 ds) : allD (chrs ds) = true := by
  simp only [allD, chrs, List.all_eq_true, List.mem_map]
  rintro c ⟨d, hd, rfl⟩
  have := h d hd
  rw [chr_val this]
  simp; omega
theorem decN_chrs : ∀ {ds : List Nat}, All 10 ds → decN 0 (chrs ds.reverse) = Proofs.YtjakllpnbeagjaaGreatDoor.val 10 ds
  | [], _ => rfl
  | d :: ds, h => by
    have ih := decN_chrs h.tail
    have hd := h.head
    simp only [chrs, List.reverse_cons, List.map_append, List.map_cons, List.map_nil] at ih ⊢
    rw [decN_app, ih]
    simp only [decN, List.foldl_cons, List.foldl_nil, chr_val hd, Proofs.YtjakllpnbeagjaaGreatDoor.val]
    omega
theorem digT_allD (n : Nat) : allD (digT n) = true := by
  unfold digT
  split
  · decide
  · exact allD_chrs (fun d hd => dig_all (by omega) n d (by simpa using hd))
theorem digT_dec (n : Nat) : decN 0 (digT n) = n := by
  unfold digT
  split
  · rename_i h; subst h; decide
  · rw [decN_chrs (dig_all (by omega) n), val_dig (by omega)]
theorem digT_len1 (n : Nat) : 1 ≤ (digT n).length := by
  unfold digT
  split
  · simp
  · rename_i h
    have : (dig 10 n).length ≠ 0 := fun e => h ((dig_len_zero (by omega)).1 e)
    simp [chrs]; omega
theorem digT_len {n k : Nat} (h : n < 10 ^ k) (hk : 1 ≤ k) : (digT n).length ≤ k := by
  unfold digT
  split
  · simpa using hk
  · simpa [chrs] using dig_len_le (by omega) k n h
theorem digT_head (n : Nat) : (digT n).head? ≠ some 45 := by
  have h := digT_allD n
  cases hl : digT n with
  | nil => simp
  | cons c l =>
    rw [hl] at h
    simp only [allD, List.all_cons, Bool.and_eq_true, decide_eq_true_eq] at h
    intro e
    simp only [List.head?_cons, Option.some.injEq] at e
    subst e
    exact absurd h.1.1 (by decide)
/-- .. of text: digits alone, the first one no nought. -/
theorem digT_of {l : List UInt8} (h : allD l = true) (h0 : l ≠ []) (h1 : l.head? ≠ some 48) : digT (decN 0 l) = l := by
  obtain ⟨ds, hds⟩ : ∃ ds, ds = (l.map fun c => c.toNat - 48).reverse := ⟨_, rfl⟩
  have ha : All 10 ds := by
    intro d hd
    rw [hds, List.mem_reverse, List.mem_map] at hd
    obtain ⟨c, hc, rfl⟩ := hd
    simp only [allD, List.all_eq_true, Bool.and_eq_true, decide_eq_true_eq] at h
    have := h c hc
    omega
  have hl : chrs ds.reverse = l := by
    rw [hds, List.reverse_reverse, chrs, List.map_map]
    conv => rhs; rw [← List.map_id l]
    refine List.map_congr_left fun c hc => ?_
    simp only [allD, List.all_eq_true, Bool.and_eq_true, decide_eq_true_eq] at h
    have h2 := h c hc
    apply UInt8.toNat_inj.1
    simp only [Function.comp_apply, id_eq]
    rw [UInt8.toNat_ofNat']; omega
  have hv : decN 0 l = Proofs.YtjakllpnbeagjaaGreatDoor.val 10 ds := by rw [← hl]; exact decN_chrs ha
  have hne : ds ≠ [] := by rw [hds]; simpa using h0
  have ht : Top ds := by
    refine .inr ?_
    cases l with
    | nil => exact absurd rfl h0
    | cons c l =>
      simp only [List.map_cons, List.reverse_cons] at hds
      rw [hds]
      simp only [List.length_append, List.length_reverse, List.length_map, List.length_cons, List.length_nil, Nat.zero_add, Nat.add_sub_cancel]
      rw [show l.length = ((l.map fun c => c.toNat - 48).reverse).length by simp, nth_app_at]
      simp only [allD, List.all_cons, Bool.and_eq_true, decide_eq_true_eq] at h
      intro e
      apply h1
      simp only [List.head?_cons, Option.some.injEq]
      apply UInt8.toNat_inj.1
      show c.toNat = 48
      omega
  have hd := dig_val (b := 10) (by omega) ha ht
  have hpos := val_pos (b := 10) (by omega) ht hne
  unfold digT
  rw [if_neg (by rw [hv]; omega), hv, hd, hl]

-- which texts are a number
def minusB (l : List UInt8) : Bool := Lib.hasPrefix l [45]
def unsig (l : List UInt8) : List UInt8 := Lib.trimPrefix l [45]
def isN (l : List UInt8) : Bool := decide (1 ≤ l.length) && (decide (l.length ≤ 400) && allD l)
def isNum (l : List UInt8) : Bool := isN (unsig l)
def sNum (l : List UInt8) : Int := if minusB l = true then -(decN 0 (unsig l) : Int) else (decN 0 (unsig l) : Int)
theorem isN_of {l : List UInt8} (h1 : 1 ≤ l.length) (h2 : l.length ≤ 400) (h3 : allD l = true) : isN l = true := by simp [isN, h1, h2, h3]
theorem isN_all {l : List UInt8} (h : isN l = true) : 1 ≤ l.length ∧ l.length ≤ 400 ∧ allD l = true := by simpa [isN] using h
theorem minus_cons (l : List UInt8) : minusB (45 :: l) = true := by simp [minusB, Lib.hasPrefix, List.isPrefixOf]
theorem unsig_cons (l : List UInt8) : unsig (45 :: l) = l := by
  have := minus_cons l
  unfold minusB at this
  simp [unsig, Lib.trimPrefix, this]
theorem minus_no {l : List UInt8} (h : l.head? ≠ some 45) : minusB l = false := by
  cases l with
  | nil => rfl
  | cons c l => simp only [List.head?_cons, ne_eq, Option.some.injEq] at h; simp [minusB, Lib.hasPrefix, List.isPrefixOf, Ne.symm h]
theorem unsig_no {l : List UInt8} (h : l.head? ≠ some 45) : unsig l = l := by
  have := minus_no h
  unfold minusB at this
  simp [unsig, Lib.trimPrefix, this]
theorem unsig_txt (z : Int) : unsig (txt z) = digT z.natAbs := by
  unfold txt
  split
  · exact unsig_cons _
  · exact unsig_no (digT_head _)
theorem sNum_txt (z : Int) : sNum (txt z) = z := by
  unfold sNum
  rw [unsig_txt, digT_dec]
  unfold txt
  split
  · rw [minus_cons, if_pos rfl]; omega
  · rw [minus_no (digT_head _), if_neg (by simp)]; omega
theorem isNum_txt {z : Int} {k : Nat} (h : z.natAbs < 10 ^ k) (h1 : 1 ≤ k) (hk : k ≤ 400) : isNum (txt z) = true := by
  unfold isNum
  rw [unsig_txt]
  exact isN_of (digT_len1 _) (Nat.le_trans (digT_len h h1) hk) (digT_allD _)
theorem unsig_len (l : List UInt8) : (unsig l).length ≤ l.length := by
  unfold unsig Lib.trimPrefix
  split
  · simp
  · exact Nat.le_refl _
-- at the first /
def slashAt (l : List UInt8) : Nat := (l.takeWhile (· != 47)).length
def hasSlash (l : List UInt8) : Bool := decide (slashAt l < l.length)
theorem slash_le (l : List UInt8) : slashAt l ≤ l.length := (List.takeWhile_prefix _).length_le
theorem index_slash : ∀ l : List UInt8, Lib.indexByte l 47 = if hasSlash l = true then (slashAt l : Int) else -1
  | [] => rfl
  | c :: l => by
    have ih := index_slash l
    simp only [Lib.indexByte]
    by_cases h : c = 47
    · subst h; simp [hasSlash, slashAt]
    · have hb : (c == 47) = false := by simpa using h
      have e1 : slashAt (c :: l) = slashAt l + 1 := by simp [slashAt, h]
      have e2 : hasSlash (c :: l) = hasSlash l := by unfold hasSlash; rw [e1]; simp
      rw [hb, if_neg (by simp), e2, e1, ih]
      by_cases hs : hasSlash l = true
      · simp only [hs, if_true]
        have : ((slashAt l : Int) == -1) = false := by simp
        rw [this]; simp
      · simp [hs]
/-- The text of a rational. -/
def fracT (q : Rat) : List UInt8 := if q.den = 1 then txt q.num else txt q.num ++ 47 :: digT q.den
theorem allD_no {l : List UInt8} {k : Nat} (h : allD (l.drop k) = false) (hk : k < l.length) (h1 : 48 ≤ (l.getD k 0).toNat) (h2 : (l.getD k 0).toNat ≤ 57) : allD (l.drop (k + 1)) = false := by
  rw [List.drop_eq_getElem_cons hk] at h
  rw [show l.getD k 0 = l[k] by simp [List.getD, hk]] at h1 h2
  simpa only [allD, List.all_cons, h1, h2, decide_true, Bool.and_self, Bool.true_and] using h
end Go.Proofs.YtjakllpnbeagjaaGreatDoor
