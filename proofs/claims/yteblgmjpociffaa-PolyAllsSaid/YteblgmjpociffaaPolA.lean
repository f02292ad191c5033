/- Polynomials as lists of whole numbers: what is cut off, lengths, coefficients. -/
import Derived.Test.YteblgmjpociffaaBase
namespace Go.Proofs.Yteblgmjpociffaa
/-- The length without the zeros on top. -/
def tl (f : Nat → Int) : Nat → Nat
  | 0 => 0
  | n + 1 => if f n = 0 then tl f n else n + 1
theorem tl_le (f : Nat → Int) : ∀ n, tl f n ≤ n
  | 0 => Nat.le_refl _
  | n + 1 => by
    unfold tl
    split
    · exact Nat.le_succ_of_le (tl_le f n)
    · exact Nat.le_refl _
theorem tl_zero (f : Nat → Int) : ∀ n i, tl f n ≤ i → i < n → f i = 0
  | 0, i, _, h => by omega
  | n + 1, i, h1, h2 => by
    unfold tl at h1
    split at h1
    · rename_i h0
      rcases Nat.lt_or_ge i n with h | h
      · exact tl_zero f n i h1 h
      · have : i = n := by omega
        rw [this]; exact h0
    · omega
theorem tl_last (f : Nat → Int) : ∀ n, 0 < tl f n → f (tl f n - 1) ≠ 0
  | 0, h => by simp [tl] at h
  | n + 1, h => by
    unfold tl at h ⊢
    split
    · rename_i h0
      rw [if_pos h0] at h
      exact tl_last f n h
    · rename_i h0
      simpa using h0
def coef (zs : List Int) (i : Nat) : Int := zs.getD i 0
theorem coef_out {zs : List Int} {i : Nat} (h : zs.length ≤ i) : coef zs i = 0 := by
  unfold coef
  rw [List.getD_eq_getElem?_getD, List.getElem?_eq_none h]; rfl
def mk (n : Nat) (f : Nat → Int) : List Int := (List.range n).map f
theorem mk_length (n : Nat) (f : Nat → Int) : (mk n f).length = n := by simp [mk]
theorem coef_mk (n : Nat) (f : Nat → Int) (i : Nat) : coef (mk n f) i = if i < n then f i else 0 := by
  unfold coef mk
  rw [List.getD_eq_getElem?_getD, List.getElem?_map]
  split
  · rename_i h
    rw [List.getElem?_eq_getElem (by simpa using h)]; simp
  · rename_i h
    rw [List.getElem?_eq_none (by simpa using h)]; rfl
def trimL (zs : List Int) : List Int := zs.take (tl (coef zs) zs.length)
theorem trimL_length (zs : List Int) : (trimL zs).length = tl (coef zs) zs.length := by
  rw [trimL, List.length_take]
  exact Nat.min_eq_left (tl_le _ _)
theorem coef_take (zs : List Int) (m i : Nat) : coef (zs.take m) i = if i < m then coef zs i else 0 := by
  unfold coef
  simp only [List.getD_eq_getElem?_getD, List.getElem?_take]
  split <;> rfl
theorem coef_trim (zs : List Int) (i : Nat) : coef (trimL zs) i = coef zs i := by
  rw [trimL, coef_take]
  split
  · rfl
  · rename_i h
    rcases Nat.lt_or_ge i zs.length with h1 | h1
    · exact (tl_zero (coef zs) _ _ (by omega) h1).symm
    · exact (coef_out h1).symm
/-- Nothing is 0 on top. -/
def Nrm (zs : List Int) : Prop := 0 < zs.length → coef zs (zs.length - 1) ≠ 0
theorem trimL_nrm (zs : List Int) : Nrm (trimL zs) := fun h => by
  rw [coef_trim, trimL_length]
  rw [trimL_length] at h
  exact tl_last _ _ h
theorem nrm_le {a b : List Int} (ha : Nrm a) (h : ∀ i, coef a i = coef b i) : a.length ≤ b.length := by
  rcases Nat.lt_or_ge b.length a.length with hl | hl
  · exact absurd ((h _).trans (coef_out (by omega))) (ha (by omega))
  · exact hl
theorem nrm_ext {a b : List Int} (ha : Nrm a) (hb : Nrm b) (h : ∀ i, coef a i = coef b i) : a = b := by
  have hl : a.length = b.length := Nat.le_antisymm (nrm_le ha h) (nrm_le hb fun i => (h i).symm)
  apply List.ext_getElem hl
  intro i h1 h2
  have := h i
  unfold coef at this
  simpa [List.getD_eq_getElem?_getD, List.getElem?_eq_getElem h1, List.getElem?_eq_getElem h2] using this
theorem trimL_of {zs : List Int} (h : Nrm zs) : trimL zs = zs := nrm_ext (trimL_nrm zs) h (coef_trim zs)
theorem tl_congr {f g : Nat → Int} : ∀ {n : Nat}, (∀ i, i < n → f i = g i) → tl f n = tl g n
  | 0, _ => rfl
  | n + 1, h => by
    unfold tl
    rw [h n (Nat.lt_succ_self n), tl_congr fun i hi => h i (Nat.lt_succ_of_lt hi)]
theorem trimL_mk (n : Nat) (f : Nat → Int) : (trimL (mk n f)).length = tl f n := by
  rw [trimL_length, mk_length]
  exact tl_congr fun i hi => by rw [coef_mk, if_pos hi]
end Go.Proofs.Yteblgmjpociffaa
