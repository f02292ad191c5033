/- A polynomial moved by a fraction, told by Horner's steps over the rationals: its numbers. -/
import Derived.Test.YtigkehblnlghkaaPolJ
import Derived.Test.YtigkehblnlghkaaPolF
import Derived.Test.YtigkehblnlghkaaPolM
namespace Go.Proofs.Ytigkehblnlghkaa.Sym
open Go.RowKit
def sI (u d : Int) (i : Nat) : Int := if i = 0 then u else d
/-- The numbers behind j steps, times d^(j-1). -/
def gM (c : Nat → Int) (T : Nat) (u d : Int) : Nat → Nat → Int
  | 0, _ => 0
  | j + 1, i => cvS (gM c T u d j) (sI u d) 2 j i + (if i = 0 then c (T - 1 - j) * d ^ j else 0)
section
variable {c : Nat → Int} {T n : Nat} {u d : Int}
theorem gM_top (h0 : 0 < T) : ∀ j, gM c T u d (j + 1) j = c (T - 1) * d ^ j
  | 0 => by simp [gM, cvS]
  | j + 1 => by
    rw [gM, if_neg (by omega)]
    have := cvS_lead (z := gM c T u d (j + 1)) (y := sI u d) (l := 2) (m := j) (by omega)
    rw [show j + 2 - 1 = j + 1 by omega] at this
    rw [this, gM_top h0 j, show (2 : Nat) - 1 = 1 from rfl, show sI u d 1 = d from rfl, Int.pow_succ, Int.mul_assoc]; omega
theorem tl_top {f : Nat → Int} {n : Nat} (h : f n ≠ 0) : tl f (n + 1) = n + 1 := by
  unfold tl
  exact if_neg h
theorem gM_ne (h0 : 0 < T) (hc : c (T - 1) ≠ 0) (hd : d ≠ 0) (j : Nat) : gM c T u d (j + 1) j ≠ 0 := by
  rw [gM_top h0]
  exact Int.mul_ne_zero hc (Int.pow_ne_zero hd)
theorem gM_conv (h0 : 0 < T) (hc : c (T - 1) ≠ 0) (hd : d ≠ 0) (j p : Nat) : cvS (gM c T u d j) (sI u d) 2 j p = conv (upto j (gM c T u d j)) (upto 2 (sI u d)) p := by
  have h1 : tl (sI u d) 2 = 2 := tl_top hd
  have h2 : tl (gM c T u d j) j = j := by
    cases j with
    | zero => rfl
    | succ j => exact tl_top (gM_ne h0 hc hd j)
  have := cvS_conv (gM c T u d j) (sI u d) j 2 p
  rw [h1, h2] at this
  exact this
theorem ev_gM (h0 : 0 < T) (hc : c (T - 1) ≠ 0) (hd : d ≠ 0) (t : Rat) : ∀ j, j ≤ T → ev t j (gM c T u d j) = (d : Rat) ^ (j - 1) * ev (t + u / d) j (fun k => c (T - j + k))
  | 0, _ => by simp only [ev]; grind
  | j + 1, hj => by
    have hd' : (d : Rat) ≠ 0 := by exact_mod_cast hd
    have ih := ev_gM h0 hc hd t j (by omega)
    have e1 : ev t (j + 1) (gM c T u d (j + 1)) = ev t (j + 1) (fun i => cvS (gM c T u d j) (sI u d) 2 j i) + ev t (j + 1) (fun i => if i = 0 then c (T - 1 - j) * d ^ j else 0) := ev_add (j + 1) _ _
    have e2 : ev t (j + 1) (fun i => cvS (gM c T u d j) (sI u d) 2 j i) = ev t j (gM c T u d j) * (u + t * d) := by
      rw [ev_congr (y := conv (upto j (gM c T u d j)) (upto 2 (sI u d))) fun i _ => gM_conv h0 hc hd j i]
      rw [← ev_to (x := t) (n := j + 1) (m := j + 2) (z := conv (upto j (gM c T u d j)) (upto 2 (sI u d))) (fun i hi => conv_out (a := j) (b := 2) (fun i hi => upto_out hi) (fun i hi => upto_out hi) (by omega)) (by omega)]
      rw [ev_conv (b := 2) (fun i hi => upto_out hi) (a := j) (fun i hi => upto_out hi), ev_upto, ev_upto]
      congr 1
      simp only [ev, sI]
      simp
      try grind
    have e3 : ev t (j + 1) (fun i => if i = 0 then c (T - 1 - j) * d ^ j else 0) = (c (T - 1 - j) : Rat) * (d : Rat) ^ j := by
      simp only [ev]
      rw [ev_zero (z := fun i => if i + 1 = 0 then c (T - 1 - j) * d ^ j else 0) fun i _ => if_neg (by omega)]
      rw [if_pos trivial]
      push_cast
      grind
    have e4 : ev (t + u / d) (j + 1) (fun k => c (T - (j + 1) + k)) = (c (T - 1 - j) : Rat) + (t + u / d) * ev (t + u / d) j (fun k => c (T - j + k)) := by
      simp only [ev]
      rw [show T - (j + 1) + 0 = T - 1 - j by omega, ev_congr (z := fun i => c (T - (j + 1) + (i + 1))) (y := fun k => c (T - j + k)) fun i _ => congrArg c (by omega)]
    rw [e1, e2, e3, ih, e4, Nat.add_sub_cancel]
    cases j with
    | zero =>
      simp only [ev, Nat.zero_sub, Rat.pow_zero]
      grind
    | succ j =>
      generalize ev (t + u / d) (j + 1) (fun k => c (T - (j + 1) + k)) = E
      rw [Nat.add_sub_cancel, Rat.pow_succ]
      have h3 : (d : Rat) * (t + u / d) = u + t * d := by
        rw [Rat.mul_add, Rat.mul_comm (d : Rat) (u / d), Rat.div_mul_cancel hd']; grind
      grind
/-- The numbers behind all steps are those of the moved polynomial. -/
theorem gM_mvL (hT : T = tl c n) (h0 : 0 < T) (hd : d ≠ 0) (i : Nat) (hi : i < T) : gM c T u d T i = coef (mvL c n u d) i := by
  have hc : c (T - 1) ≠ 0 := hT ▸ tl_last c n (hT ▸ h0)
  refine ev_inj (n := T) (fun t => ?_) i hi
  have h1 := ev_mvL hd t c n u
  rw [mvL_length, ← hT] at h1
  rw [h1, ev_gM h0 hc hd t T (Nat.le_refl _), ← ev_upto (t + u / d) c n, ← ev_tl, ← hT, ev_congr (y := c) fun i hi => congrArg c (by omega)]
/-- The rationals of the steps. -/
def wM (c : Nat → Int) (T : Nat) (u d : Int) (j i : Nat) : Rat := Rat.divInt (gM c T u d j i) (d ^ (j - 1))
def stpM (u d : Int) (i : Nat) : Rat := Rat.divInt (sI u d i) d
theorem divInt_add_same {a b D : Int} (h : D ≠ 0) : Rat.divInt a D + Rat.divInt b D = Rat.divInt (a + b) D := by
  have h' : (D : Rat) ≠ 0 := by exact_mod_cast h
  rw [Rat.divInt_eq_div, Rat.divInt_eq_div, Rat.divInt_eq_div]
  push_cast
  grind
theorem divInt_zero' (D : Int) : Rat.divInt 0 D = 0 := Rat.zero_divInt D
theorem cvSQ_div {z y : Nat → Int} {D E : Int} {l : Nat} (hD : D ≠ 0) (hE : E ≠ 0) : ∀ (j p : Nat), cvSQ (fun i => Rat.divInt (z i) D) (fun i => Rat.divInt (y i) E) l j p = Rat.divInt (cvS z y l j p) (D * E)
  | 0, p => (divInt_zero' _).symm
  | j + 1, p => by
    rw [cvSQ, cvS, cvSQ_div hD hE j p, ← divInt_add_same (Int.mul_ne_zero hD hE)]
    congr 1
    split
    · exact Rat.divInt_mul_divInt ..
    · exact (divInt_zero' _).symm
theorem cvIQ_div {z y : Nat → Int} {D E : Int} {l j i p : Nat} (hD : D ≠ 0) (hE : E ≠ 0) : cvIQ (fun i => Rat.divInt (z i) D) (fun i => Rat.divInt (y i) E) l j i p = Rat.divInt (cvI z y l j i p) (D * E) := by
  rw [cvIQ, cvI, cvSQ_div hD hE j p, ← divInt_add_same (Int.mul_ne_zero hD hE)]
  congr 1
  split
  · exact Rat.divInt_mul_divInt ..
  · exact (divInt_zero' _).symm
theorem divInt_num {a D : Int} (h : D ≠ 0) : (Rat.divInt a D).num = 0 ↔ a = 0 := by
  have h' : (D : Rat) ≠ 0 := by exact_mod_cast h
  rw [Rat.num_eq_zero, Rat.divInt_eq_div]
  constructor
  · intro e
    have : (a : Rat) = 0 := by grind
    exact_mod_cast this
  · rintro rfl
    grind
theorem wM_cv (hd : d ≠ 0) (j p : Nat) : cvSQ (wM c T u d j) (stpM u d) 2 j p = Rat.divInt (cvS (gM c T u d j) (sI u d) 2 j p) (d ^ j) := by
  have h := cvSQ_div (z := gM c T u d j) (y := sI u d) (l := 2) (D := d ^ (j - 1)) (E := d) (Int.pow_ne_zero hd) hd j p
  refine h.trans ?_
  cases j with
  | zero => rw [show cvS (gM c T u d 0) (sI u d) 2 0 p = 0 from rfl, divInt_zero', divInt_zero']
  | succ j => rw [Nat.add_sub_cancel, ← Int.pow_succ]
/-- The length of a step's product; the step's sum. -/
theorem wM_len (h0 : 0 < T) (hc : c (T - 1) ≠ 0) (hd : d ≠ 0) (j : Nat) : (if j = 0 ∨ 2 = 0 then 0 else tl (fun i => (cvSQ (wM c T u d j) (stpM u d) 2 j i).num) (j + 2 - 1)) = if j = 0 then 0 else j + 1 := by
  cases j with
  | zero => rfl
  | succ j =>
    rw [if_neg (by omega), if_neg (by omega), show j + 1 + 2 - 1 = (j + 1) + 1 by omega]
    refine tl_top ?_
    rw [wM_cv hd]
    intro h
    have h2 := (divInt_num (Int.pow_ne_zero hd)).1 h
    have := cvS_lead (z := gM c T u d (j + 1)) (y := sI u d) (l := 2) (m := j) (by omega)
    rw [show j + 2 - 1 = j + 1 by omega] at this
    rw [this] at h2
    exact Int.mul_ne_zero (gM_ne h0 hc hd j) hd h2
theorem wM_step (hd : d ≠ 0) (j i : Nat) (hi : i < j + 1) : aQ (cvSQ (wM c T u d j) (stpM u d) 2 j) (if j = 0 then 0 else j + 1) (fun _ => ((c (T - 1 - j) : Int) : Rat)) 1 i = wM c T u d (j + 1) i := by
  have hp : d ^ j ≠ 0 := Int.pow_ne_zero hd
  have e1 : uptoQ (if j = 0 then 0 else j + 1) (cvSQ (wM c T u d j) (stpM u d) 2 j) i = Rat.divInt (cvS (gM c T u d j) (sI u d) 2 j i) (d ^ j) := by
    unfold uptoQ
    by_cases h : j = 0
    · subst h
      rw [if_neg (by simp), show cvS (gM c T u d 0) (sI u d) 2 0 i = 0 from rfl, divInt_zero']
    · rw [if_neg h, if_pos hi, wM_cv hd]
  have e2 : uptoQ 1 (fun _ => ((c (T - 1 - j) : Int) : Rat)) i = Rat.divInt (if i = 0 then c (T - 1 - j) * d ^ j else 0) (d ^ j) := by
    unfold uptoQ
    by_cases h : i = 0
    · rw [if_pos (by omega), if_pos h, Rat.divInt_eq_div]
      have h' : ((d ^ j : Int) : Rat) ≠ 0 := by exact_mod_cast hp
      push_cast at h' ⊢
      grind
    · rw [if_neg (by omega), if_neg h, divInt_zero']
  rw [aQ, e1, e2, divInt_add_same hp]
  rfl
theorem wM_end (hd : d ≠ 0) (i : Nat) : wM c T u d T i * (d : Rat) ^ (T - 1) = ((gM c T u d T i : Int) : Rat) := by
  have h' : (d : Rat) ^ (T - 1) ≠ 0 := rpow_ne (by exact_mod_cast hd) _
  rw [wM, Rat.divInt_eq_div]
  push_cast
  grind
/-- Sizes. -/
theorem sI_bd {ku : Nat} (hu : Bd u.natAbs ku) (hd : Bd d.natAbs ku) (i : Nat) : Bd (sI u d i).natAbs ku := by
  unfold sI
  split
  · exact hu
  · exact hd
theorem gM_bd {kc ku : Nat} (hc : ∀ i, i < T → Bd (c i).natAbs kc) (h0 : 0 < T) (hu : Bd u.natAbs ku) (hd : Bd d.natAbs ku) : ∀ j, j ≤ T → ∀ i, Bd (gM c T u d j i).natAbs (kc + 1 + j * (ku + T + 1))
  | 0, _, i => Nat.pow_pos (by omega)
  | j + 1, hj, i => by
    have h1 := cvS_bd (c := T) (n := j) (l := 2) (fun i _ => gM_bd hc h0 hu hd j (by omega) i) (fun i _ => sI_bd hu hd i) (Nat.le_refl j) (by omega) i
    have h2 : Bd (if i = 0 then c (T - 1 - j) * d ^ j else 0).natAbs (kc + 1 + j * (ku + T + 1) + ku + j) := by
      split
      · rw [Int.natAbs_mul, Int.natAbs_pow]
        refine (Bd.mul (hc _ (by omega)) (Bd.pow1 hd j)).more ?_
        rw [Nat.mul_add, Nat.mul_add]; omega
      · exact Nat.pow_pos (by omega)
    rw [gM]
    refine ((Bd.add1' h1 h2).le (Int.natAbs_add_le _ _)).more ?_
    rw [Nat.succ_mul]; omega
theorem divInt_bd {a D : Int} {k : Nat} (hD : D ≠ 0) (ha : Bd a.natAbs k) (hk : Bd D.natAbs k) : Bd (Rat.divInt a D).num.natAbs k ∧ Bd (Rat.divInt a D).den k := ⟨ha.le (num_le _ _), hk.le (den_le hD)⟩
end
end Go.Proofs.Ytigkehblnlghkaa.Sym
