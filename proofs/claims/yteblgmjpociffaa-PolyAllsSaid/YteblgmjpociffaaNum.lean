/- Plain facts on numbers as rows of digits to a base, the lowest first: no program is spoken of here. -/
import GoSem.Claim
namespace Go.Proofs.Yteblgmjpociffaa

/-- The entry at j, 0 beyond the end. -/
def nth (xs : List Nat) (j : Nat) : Nat := xs.getD j 0

theorem nth_eq (xs : List Nat) {j : Nat} (h : j < xs.length) : xs[j] = nth xs j := by simp [nth, h]
theorem get_nth (xs : List Nat) {j : Nat} (h : j < xs.length) : xs[j]? = some (nth xs j) := by simp [nth, h]
theorem nth_out (xs : List Nat) {j : Nat} (h : xs.length ≤ j) : nth xs j = 0 := by simp [nth, h]
theorem nth_mem (xs : List Nat) {j : Nat} (h : j < xs.length) : nth xs j ∈ xs := by rw [← nth_eq xs h]; exact List.getElem_mem h
theorem nth_app_lt (xs ys : List Nat) {j : Nat} (h : j < xs.length) : nth (xs ++ ys) j = nth xs j := by simp [nth, List.getElem?_append, h]
theorem nth_app_ge (xs ys : List Nat) {j : Nat} (h : xs.length ≤ j) : nth (xs ++ ys) j = nth ys (j - xs.length) := by
  simp [nth, List.getElem?_append_right h]
theorem nth_app_at (xs : List Nat) (y : Nat) : nth (xs ++ [y]) xs.length = y := by simp [nth]
theorem nth_take (xs : List Nat) {k j : Nat} (h : j < k) : nth (xs.take k) j = nth xs j := by simp [nth, h]
theorem nth_drop (xs : List Nat) (k j : Nat) : nth (xs.drop k) j = nth xs (k + j) := by simp [nth, List.getElem?_drop]
theorem take_step (xs : List Nat) {k : Nat} (h : k < xs.length) : xs.take (k + 1) = xs.take k ++ [nth xs k] := by
  rw [List.take_add_one, List.getElem?_eq_getElem h, nth_eq xs h]; rfl
theorem drop_step (xs : List Nat) {k : Nat} (h : k < xs.length) : xs.drop k = nth xs k :: xs.drop (k + 1) := by
  rw [List.drop_eq_getElem_cons h, nth_eq xs h]
theorem ext_nth {xs ys : List Nat} (hl : xs.length = ys.length) (h : ∀ j, j < xs.length → nth xs j = nth ys j) : xs = ys := by
  apply List.ext_getElem hl
  intro j h1 h2
  rw [nth_eq xs h1, nth_eq ys h2, h j h1]

def All (b : Nat) (xs : List Nat) : Prop := ∀ x, x ∈ xs → x < b
theorem All.nth {b : Nat} {xs : List Nat} (h : All b xs) {j : Nat} (hj : j < xs.length) : nth xs j < b := h _ (nth_mem xs hj)
theorem All.of {b : Nat} {xs : List Nat} (h : ∀ j, j < xs.length → Go.Proofs.Yteblgmjpociffaa.nth xs j < b) : All b xs := by
  intro x hx
  obtain ⟨j, hj, rfl⟩ := List.getElem_of_mem hx
  rw [nth_eq xs hj]; exact h j hj
theorem All.nil (b : Nat) : All b [] := fun _ h => by cases h
theorem All.cons {b x : Nat} {xs : List Nat} (hx : x < b) (h : All b xs) : All b (x :: xs) := by
  intro y hy
  rcases List.mem_cons.1 hy with rfl | hy
  · exact hx
  · exact h y hy
theorem All.head {b x : Nat} {xs : List Nat} (h : All b (x :: xs)) : x < b := h x (by simp)
theorem All.tail {b x : Nat} {xs : List Nat} (h : All b (x :: xs)) : All b xs := fun y hy => h y (by simp [hy])
theorem All.app {b : Nat} {xs ys : List Nat} (h : All b xs) (k : All b ys) : All b (xs ++ ys) := by
  intro y hy
  rcases List.mem_append.1 hy with hy | hy
  · exact h y hy
  · exact k y hy
theorem All.take {b : Nat} {xs : List Nat} (h : All b xs) (k : Nat) : All b (xs.take k) := fun y hy => h y (List.mem_of_mem_take hy)
theorem All.drop {b : Nat} {xs : List Nat} (h : All b xs) (k : Nat) : All b (xs.drop k) := fun y hy => h y (List.mem_of_mem_drop hy)
theorem All.mono {b c : Nat} {xs : List Nat} (h : All b xs) (hc : b ≤ c) : All c xs := fun y hy => Nat.lt_of_lt_of_le (h y hy) hc
theorem All.rep {b x : Nat} (h : x < b) (n : Nat) : All b (List.replicate n x) := fun y hy => by rw [(List.mem_replicate.1 hy).2]; exact h

/-- The number that a row of digits to the base b is. -/
def val (b : Nat) : List Nat → Nat
  | [] => 0
  | x :: xs => x + b * val b xs

theorem val_app (b : Nat) (xs ys : List Nat) : val b (xs ++ ys) = val b xs + b ^ xs.length * val b ys := by
  induction xs with
  | nil => simp [val]
  | cons x xs ih => simp only [List.cons_append, val, ih, List.length_cons, Nat.pow_succ, Nat.mul_add]; rw [Nat.mul_comm (b ^ xs.length) b, Nat.mul_assoc]; omega
theorem val_snoc (b : Nat) (xs : List Nat) (y : Nat) : val b (xs ++ [y]) = val b xs + b ^ xs.length * y := by rw [val_app]; simp [val]
theorem val_take_step (b : Nat) (xs : List Nat) {k : Nat} (h : k < xs.length) : val b (xs.take (k + 1)) = val b (xs.take k) + b ^ k * nth xs k := by
  rw [take_step xs h, val_snoc, List.length_take, Nat.min_eq_left (by omega)]
theorem val_take_drop (b : Nat) (xs : List Nat) {k : Nat} (h : k ≤ xs.length) : val b xs = val b (xs.take k) + b ^ k * val b (xs.drop k) := by
  have e := val_app b (xs.take k) (xs.drop k)
  rw [List.take_append_drop, List.length_take, Nat.min_eq_left h] at e
  exact e
theorem val_drop_step (b : Nat) (xs : List Nat) {k : Nat} (h : k < xs.length) : val b (xs.drop k) = nth xs k + b * val b (xs.drop (k + 1)) := by
  rw [drop_step xs h]; rfl
theorem val_rep0 (b n : Nat) : val b (List.replicate n 0) = 0 := by
  induction n with
  | zero => rfl
  | succ n ih => simp [List.replicate_succ, val, ih]

theorem val_lt {b : Nat} {xs : List Nat} (h : All b xs) : val b xs < b ^ xs.length := by
  induction xs with
  | nil => simp [val]
  | cons x xs ih =>
    have h1 := h.head
    have h2 := ih h.tail
    simp only [val, List.length_cons, Nat.pow_succ]
    have h3 : b * (val b xs + 1) ≤ b * b ^ xs.length := Nat.mul_le_mul_left b h2
    rw [Nat.mul_comm (b ^ xs.length) b]
    rw [Nat.mul_add] at h3
    omega

/-- The digits of n to the base b, none of them 0 on top. -/
def digF (b : Nat) : Nat → Nat → List Nat
  | 0, _ => []
  | f + 1, n => if n = 0 then [] else n % b :: digF b f (n / b)
def dig (b n : Nat) : List Nat := digF b n n

theorem digF_more {b : Nat} (hb : 2 ≤ b) : ∀ f g n : Nat, n ≤ f → n ≤ g → digF b f n = digF b g n := by
  intro f
  induction f with
  | zero =>
    intro g n h1 h2
    obtain rfl : n = 0 := by omega
    cases g <;> simp [digF]
  | succ f ih =>
    intro g n h1 h2
    by_cases h0 : n = 0
    · subst h0
      cases g <;> simp [digF]
    · cases g with
      | zero => omega
      | succ g =>
        have hd : n / b < n := Nat.div_lt_self (by omega) (by omega)
        simp only [digF, if_neg h0]
        rw [ih g (n / b) (by omega) (by omega)]
theorem dig_zero (b : Nat) : dig b 0 = [] := rfl
theorem dig_pos {b n : Nat} (hb : 2 ≤ b) (h : 0 < n) : dig b n = n % b :: dig b (n / b) := by
  cases n with
  | zero => omega
  | succ n =>
    have hd : (n + 1) / b < n + 1 := Nat.div_lt_self (by omega) (by omega)
    simp only [dig, digF, if_neg (Nat.succ_ne_zero n)]
    rw [digF_more hb n ((n + 1) / b) ((n + 1) / b) (by omega) (by omega)]

theorem dig_ind {b : Nat} (hb : 2 ≤ b) {P : Nat → Prop} (h0 : P 0) (h : ∀ n, 0 < n → P (n / b) → P n) : ∀ n, P n := by
  have aux : ∀ m n, n ≤ m → P n := by
    intro m
    induction m with
    | zero => intro n hn; obtain rfl : n = 0 := (by omega); exact h0
    | succ m ih =>
      intro n hn
      by_cases hz : n = 0
      · subst hz; exact h0
      · have hd : n / b < n := Nat.div_lt_self (by omega) (by omega)
        exact h n (by omega) (ih _ (by omega))
  exact fun n => aux n n (Nat.le_refl n)

theorem val_dig {b : Nat} (hb : 2 ≤ b) : ∀ n, val b (dig b n) = n := by
  refine dig_ind hb rfl ?_
  intro n hn ih
  rw [dig_pos hb hn, val, ih]
  exact Nat.mod_add_div n b
theorem dig_all {b : Nat} (hb : 2 ≤ b) : ∀ n, All b (dig b n) := by
  refine dig_ind hb (All.nil b) ?_
  intro n hn ih
  rw [dig_pos hb hn]
  exact All.cons (Nat.mod_lt _ (by omega)) ih

/-- No 0 on top. -/
def Top (xs : List Nat) : Prop := xs = [] ∨ nth xs (xs.length - 1) ≠ 0
theorem Top.tail {x : Nat} {xs : List Nat} (h : Top (x :: xs)) : Top xs := by
  cases xs with
  | nil => exact .inl rfl
  | cons y ys =>
    refine .inr ?_
    rcases h with h | h
    · cases h
    · simpa [nth] using h
theorem val_pos {b : Nat} (hb : 0 < b) {xs : List Nat} (h : Top xs) (hne : xs ≠ []) : 0 < val b xs := by
  induction xs with
  | nil => exact absurd rfl hne
  | cons x xs ih =>
    cases xs with
    | nil =>
      rcases h with h | h
      · cases h
      · simp [nth] at h; simp [val]; omega
    | cons y ys =>
      have h1 := ih h.tail (by simp)
      simp only [val] at h1 ⊢
      have h2 : 0 < b * (y + b * val b ys) := Nat.mul_pos hb h1
      omega
theorem dig_top {b : Nat} (hb : 2 ≤ b) : ∀ n, Top (dig b n) := by
  refine dig_ind hb (.inl rfl) ?_
  intro n hn ih
  rw [dig_pos hb hn]
  refine .inr ?_
  by_cases hq : n / b = 0
  · rw [hq, dig_zero]
    have : n % b = n := Nat.mod_eq_of_lt (by
      rcases Nat.lt_or_ge n b with h | h
      · exact h
      · have := Nat.div_pos h (by omega : 0 < b); omega)
    simp [nth, this]; omega
  · rw [dig_pos hb (Nat.pos_of_ne_zero hq)] at ih ⊢
    rcases ih with h | h
    · cases h
    · simpa [nth] using h
theorem dig_val {b : Nat} (hb : 2 ≤ b) {xs : List Nat} (ha : All b xs) (ht : Top xs) : dig b (val b xs) = xs := by
  induction xs with
  | nil => rfl
  | cons x xs ih =>
    have hp := val_pos (b := b) (by omega) ht (by simp)
    rw [dig_pos hb hp]
    have hx := ha.head
    have e1 : val b (x :: xs) % b = x := by simp only [val]; rw [Nat.add_mul_mod_self_left, Nat.mod_eq_of_lt hx]
    have e2 : val b (x :: xs) / b = val b xs := by simp only [val]; rw [Nat.add_mul_div_left _ _ (by omega), Nat.div_eq_of_lt hx]; omega
    rw [e1, e2, ih ha.tail ht.tail]

/-- How much of the first k entries is left without the 0s on top. -/
def trimTo (xs : List Nat) : Nat → Nat
  | 0 => 0
  | k + 1 => if nth xs k = 0 then trimTo xs k else k + 1
theorem trimTo_le (xs : List Nat) (k : Nat) : trimTo xs k ≤ k := by
  induction k with
  | zero => exact Nat.le_refl _
  | succ k ih => unfold trimTo; split <;> omega
theorem trimTo_top (xs : List Nat) (k : Nat) : trimTo xs k = 0 ∨ nth xs (trimTo xs k - 1) ≠ 0 := by
  induction k with
  | zero => exact .inl rfl
  | succ k ih =>
    unfold trimTo
    split
    · exact ih
    · exact .inr (by simpa)
theorem trimTo_val (b : Nat) (xs : List Nat) (k : Nat) (h : k ≤ xs.length) : val b (xs.take (trimTo xs k)) = val b (xs.take k) := by
  induction k with
  | zero => rfl
  | succ k ih =>
    unfold trimTo
    split
    · rename_i h0
      rw [ih (by omega), val_take_step b xs (by omega), h0]; simp
    · rfl
def trim (xs : List Nat) : List Nat := xs.take (trimTo xs xs.length)
theorem trim_len (xs : List Nat) : (trim xs).length = trimTo xs xs.length := by
  rw [trim, List.length_take, Nat.min_eq_left (trimTo_le _ _)]
theorem trim_eq {b : Nat} (hb : 2 ≤ b) {xs : List Nat} (h : All b xs) : trim xs = dig b (val b xs) := by
  have e : val b (trim xs) = val b xs := by
    have := trimTo_val b xs xs.length (Nat.le_refl _)
    rwa [List.take_length] at this
  have t : Top (trim xs) := by
    rcases trimTo_top xs xs.length with h0 | h0
    · exact .inl (by rw [trim, h0]; rfl)
    · by_cases hz : trimTo xs xs.length = 0
      · exact .inl (by rw [trim, hz]; rfl)
      · refine .inr ?_
        rw [trim_len, trim, nth_take _ (by omega)]
        exact h0
  have k := dig_val hb (h.take (trimTo xs xs.length)) (show Top (xs.take (trimTo xs xs.length)) from t)
  rw [← e]
  exact k.symm

theorem dig_len_le {b : Nat} (hb : 2 ≤ b) (k : Nat) : ∀ n, n < b ^ k → (dig b n).length ≤ k := by
  induction k with
  | zero => intro n h; obtain rfl : n = 0 := (by simpa using h); simp [dig_zero]
  | succ k ih =>
    intro n h
    by_cases h0 : n = 0
    · subst h0; simp [dig_zero]
    · rw [dig_pos hb (by omega), List.length_cons]
      have := ih (n / b) (by rw [Nat.div_lt_iff_lt_mul (by omega)]; rwa [Nat.pow_succ] at h)
      omega
theorem dig_lt_pow {b : Nat} (hb : 2 ≤ b) (n : Nat) : n < b ^ (dig b n).length := by
  have := val_lt (dig_all hb n)
  rwa [val_dig hb] at this
theorem pow_le_of_len {b : Nat} (hb : 2 ≤ b) {n k : Nat} (h : k < (dig b n).length) : b ^ k ≤ n := by
  rcases Nat.lt_or_ge n (b ^ k) with h1 | h1
  · have := dig_len_le hb k n h1; omega
  · exact h1
theorem dig_len_lt {b : Nat} (hb : 2 ≤ b) {m n : Nat} (h : (dig b m).length < (dig b n).length) : m < n :=
  Nat.lt_of_lt_of_le (dig_lt_pow hb m) (pow_le_of_len hb h)
theorem dig_inj {b : Nat} (hb : 2 ≤ b) {m n : Nat} (h : dig b m = dig b n) : m = n := by
  rw [← val_dig hb m, ← val_dig hb n, h]
theorem dig_nil {b : Nat} (hb : 2 ≤ b) {n : Nat} : dig b n = [] ↔ n = 0 := by
  constructor
  · intro h; rw [← val_dig hb n, h]; rfl
  · rintro rfl; rfl
theorem dig_len_zero {b : Nat} (hb : 2 ≤ b) {n : Nat} : (dig b n).length = 0 ↔ n = 0 := by
  rw [List.length_eq_zero_iff, dig_nil hb]
theorem dig_nth {b : Nat} (hb : 2 ≤ b) (k : Nat) : ∀ n, nth (dig b n) k = n / b ^ k % b := by
  induction k with
  | zero =>
    intro n
    by_cases h0 : n = 0
    · subst h0; simp [dig_zero, nth]
    · rw [dig_pos hb (by omega)]; simp [nth]
  | succ k ih =>
    intro n
    by_cases h0 : n = 0
    · subst h0; simp [dig_zero, nth]
    · rw [dig_pos hb (by omega)]
      have : nth (n % b :: dig b (n / b)) (k + 1) = nth (dig b (n / b)) k := by simp [nth]
      rw [this, ih, Nat.div_div_eq_div_mul, Nat.pow_succ, Nat.mul_comm b]
theorem dig_small {b n : Nat} (hb : 2 ≤ b) (h0 : 0 < n) (h : n < b) : dig b n = [n] := by
  rw [dig_pos hb h0, Nat.mod_eq_of_lt h, Nat.div_eq_of_lt h, dig_zero]
/-- All but the lowest k digits. -/
theorem dig_drop {b : Nat} (hb : 2 ≤ b) (k : Nat) : ∀ n, (dig b n).drop k = dig b (n / b ^ k) := by
  induction k with
  | zero => intro n; simp
  | succ k ih =>
    intro n
    by_cases h0 : n = 0
    · subst h0; simp [dig_zero]
    · rw [dig_pos hb (by omega), List.drop_succ_cons, ih, Nat.div_div_eq_div_mul, Nat.pow_succ, Nat.mul_comm b]
/-- k 0s below: times the base to the k. -/
theorem dig_shift {b : Nat} (hb : 2 ≤ b) {n : Nat} (h : 0 < n) (k : Nat) : List.replicate k 0 ++ dig b n = dig b (b ^ k * n) := by
  induction k with
  | zero => simp
  | succ k ih =>
    have hp : 0 < b ^ k * n := Nat.mul_pos (Nat.pow_pos (by omega)) h
    have hq : b ^ (k + 1) * n = b * (b ^ k * n) := by rw [Nat.pow_succ]; rw [Nat.mul_comm (b ^ k) b, Nat.mul_assoc]
    rw [List.replicate_succ, List.cons_append, ih, hq, dig_pos hb (Nat.mul_pos (by omega) hp), Nat.mul_mod_right, Nat.mul_div_cancel_left _ (by omega)]

/-- -1, 0, 1. -/
def cmpN (m n : Nat) : Int := if m < n then -1 else if m = n then 0 else 1
theorem cmpN_lt {m n : Nat} (h : m < n) : cmpN m n = -1 := by simp [cmpN, h]
theorem cmpN_eq (n : Nat) : cmpN n n = 0 := by simp [cmpN]
theorem cmpN_gt {m n : Nat} (h : n < m) : cmpN m n = 1 := by
  unfold cmpN
  rw [if_neg (by omega), if_neg (by omega)]
theorem trim_val {b : Nat} (xs : List Nat) : val b (trim xs) = val b xs := by
  have := trimTo_val b xs xs.length (Nat.le_refl _)
  rwa [List.take_length] at this
/-- Two rows that are one from k + 1 on: the digit at k decides. -/
theorem val_lt_at {b : Nat} {a c : List Nat} {k : Nat} (hk : k < a.length) (hk' : k < c.length) (hd : a.drop (k + 1) = c.drop (k + 1)) (ha : All b a)
    (h : nth a k < nth c k) : val b a < val b c := by
  have e1 := val_take_drop b a (k := k) (by omega)
  have e2 := val_take_drop b c (k := k) (by omega)
  rw [val_drop_step b a hk, hd] at e1
  rw [val_drop_step b c hk'] at e2
  have l1 := val_lt (ha.take k)
  rw [List.length_take, Nat.min_eq_left (by omega)] at l1
  have m1 : b ^ k * (nth a k + 1) ≤ b ^ k * nth c k := Nat.mul_le_mul_left _ h
  rw [Nat.mul_add] at m1 e1 e2
  omega

/-- The first k values of f, as a row. -/
def pre (f : Nat → Nat) (k : Nat) : List Nat := (List.range k).map f
theorem pre_len (f : Nat → Nat) (k : Nat) : (pre f k).length = k := by simp [pre]
theorem pre_nth (f : Nat → Nat) {k j : Nat} (h : j < k) : nth (pre f k) j = f j := by simp [nth, pre, h]
theorem pre_succ (f : Nat → Nat) (k : Nat) : pre f (k + 1) = pre f k ++ [f k] := by simp [pre, List.range_succ]
theorem val_pre (b : Nat) (f : Nat → Nat) (k : Nat) : val b (pre f (k + 1)) = val b (pre f k) + b ^ k * f k := by rw [pre_succ, val_snoc, pre_len]
theorem pre_all {b : Nat} {f : Nat → Nat} {k : Nat} (h : ∀ j, j < k → f j < b) : All b (pre f k) := by
  refine All.of fun j hj => ?_
  rw [pre_len] at hj
  rw [pre_nth f hj]
  exact h j hj
theorem pre_congr {f g : Nat → Nat} {k : Nat} (h : ∀ j, j < k → f j = g j) : pre f k = pre g k := by
  refine ext_nth (by rw [pre_len, pre_len]) fun j hj => ?_
  rw [pre_len] at hj
  rw [pre_nth f hj, pre_nth g hj, h j hj]
theorem pre_take (xs : List Nat) {k : Nat} (h : k ≤ xs.length) : pre (nth xs) k = xs.take k := by
  refine ext_nth (by rw [pre_len, List.length_take, Nat.min_eq_left h]) fun j hj => ?_
  rw [pre_len] at hj
  rw [pre_nth _ hj, nth_take _ hj]
theorem pre_self (xs : List Nat) : pre (nth xs) xs.length = xs := by rw [pre_take xs (Nat.le_refl _), List.take_length]
theorem val_pre_more (b : Nat) (xs : List Nat) {k : Nat} (h : xs.length ≤ k) : val b (pre (nth xs) k) = val b xs := by
  obtain ⟨d, rfl⟩ : ∃ d, k = xs.length + d := ⟨k - xs.length, by omega⟩
  induction d with
  | zero => rw [Nat.add_zero, pre_self]
  | succ d ih => rw [← Nat.add_assoc, val_pre, ih (by omega), nth_out xs (by omega)]; simp

/-- The carry and the digit of a sum. -/
def addC (b : Nat) (f g : Nat → Nat) : Nat → Nat
  | 0 => 0
  | k + 1 => (addC b f g k + (f k + g k)) / b
def addD (b : Nat) (f g : Nat → Nat) (k : Nat) : Nat := (addC b f g k + (f k + g k)) % b
theorem addC_le {b : Nat} {f g : Nat → Nat} (hf : ∀ j, f j < b) (hg : ∀ j, g j < b) (k : Nat) : addC b f g k ≤ 1 := by
  induction k with
  | zero => simp [addC]
  | succ k ih =>
    have h1 := hf k
    have h2 := hg k
    have h3 : addC b f g k + (f k + g k) < b * 2 := by omega
    have h4 := Nat.div_lt_of_lt_mul h3
    simp only [addC]
    omega
theorem addD_lt {b : Nat} (hb : 0 < b) (f g : Nat → Nat) (k : Nat) : addD b f g k < b := Nat.mod_lt _ hb
theorem add_val (b : Nat) (f g : Nat → Nat) (k : Nat) : val b (pre (addD b f g) k) + b ^ k * addC b f g k = val b (pre f k) + val b (pre g k) := by
  induction k with
  | zero => simp [pre, val, addC]
  | succ k ih =>
    rw [val_pre, val_pre, val_pre]
    have e : b ^ (k + 1) * addC b f g (k + 1) + b ^ k * addD b f g k = b ^ k * (addC b f g k + (f k + g k)) := by
      simp only [addC, addD]
      rw [Nat.pow_succ, Nat.mul_assoc, ← Nat.mul_add, Nat.div_add_mod]
    rw [Nat.mul_add, Nat.mul_add] at e
    omega
theorem nth_lt {b : Nat} (hb : 0 < b) {xs : List Nat} (h : All b xs) (j : Nat) : nth xs j < b := by
  by_cases hj : j < xs.length
  · exact h.nth hj
  · rw [nth_out xs (by omega)]; exact hb

/-- The greatest of f 0 .. f (k - 1); their sum. -/
def maxF (f : Nat → Nat) : Nat → Nat
  | 0 => 0
  | k + 1 => max (maxF f k) (f k)
def sumF (f : Nat → Nat) : Nat → Nat
  | 0 => 0
  | k + 1 => sumF f k + f k
theorem maxF_ge (f : Nat → Nat) {j k : Nat} (h : j < k) : f j ≤ maxF f k := by
  induction k with
  | zero => omega
  | succ k ih =>
    simp only [maxF]
    by_cases e : j = k
    · subst e; exact Nat.le_max_right _ _
    · exact Nat.le_trans (ih (by omega)) (Nat.le_max_left _ _)
theorem maxF_le (f : Nat → Nat) {k m : Nat} (h : ∀ j, j < k → f j ≤ m) : maxF f k ≤ m := by
  induction k with
  | zero => exact Nat.zero_le _
  | succ k ih => exact Nat.max_le.2 ⟨ih fun j hj => h j (by omega), h k (by omega)⟩
theorem maxF_at (f : Nat → Nat) (k : Nat) (h : maxF f k ≠ 0) : ∃ j, j < k ∧ maxF f k = f j := by
  induction k with
  | zero => exact absurd rfl h
  | succ k ih =>
    simp only [maxF] at h ⊢
    rcases Nat.le_total (maxF f k) (f k) with h1 | h1
    · exact ⟨k, by omega, Nat.max_eq_right h1⟩
    · rw [Nat.max_eq_left h1] at h ⊢
      obtain ⟨j, hj, e⟩ := ih h
      exact ⟨j, by omega, e⟩
theorem sumF_ge (f : Nat → Nat) {j k : Nat} (h : j < k) : f j ≤ sumF f k := by
  induction k with
  | zero => omega
  | succ k ih =>
    simp only [sumF]
    by_cases e : j = k
    · subst e; omega
    · have := ih (by omega); omega
theorem sumF_mono (f : Nat → Nat) (k : Nat) : sumF f k ≤ sumF f (k + 1) := Nat.le_add_right _ _

/-- A row that is great enough has no 0 on top. -/
theorem top_of_val {b : Nat} {xs : List Nat} (ha : All b xs) (hv : xs = [] ∨ b ^ (xs.length - 1) ≤ val b xs) : Top xs := by
  by_cases hn : xs = []
  · exact .inl hn
  · refine .inr fun h0 => ?_
    rcases hv with hv | hv
    · exact hn hv
    have hl : 0 < xs.length := List.length_pos_iff.2 hn
    have e := val_take_drop b xs (k := xs.length - 1) (by omega)
    rw [val_drop_step b xs (by omega), h0, show xs.length - 1 + 1 = xs.length by omega, List.drop_length] at e
    have l := val_lt (ha.take (xs.length - 1))
    rw [List.length_take, Nat.min_eq_left (by omega)] at l
    simp only [val, Nat.mul_zero, Nat.add_zero] at e
    omega
theorem pow_le_dig {b : Nat} (hb : 2 ≤ b) {n : Nat} (h : (dig b n).length ≠ 0) : b ^ ((dig b n).length - 1) ≤ n := pow_le_of_len hb (by omega)

/-- The borrow and the digit of a difference. -/
def subC (f g : Nat → Nat) : Nat → Nat
  | 0 => 0
  | k + 1 => if f k < g k + subC f g k then 1 else 0
def subD (b : Nat) (f g : Nat → Nat) (k : Nat) : Nat := (f k + b * subC f g (k + 1)) - (g k + subC f g k)
theorem subC_le (f g : Nat → Nat) (k : Nat) : subC f g k ≤ 1 := by
  cases k with
  | zero => simp [subC]
  | succ k => simp only [subC]; split <;> omega
theorem subD_spec {b : Nat} {f g : Nat → Nat} (hg : ∀ j, g j < b) (k : Nat) : subD b f g k + (g k + subC f g k) = f k + b * subC f g (k + 1) := by
  have h1 := subC_le f g k
  have h2 := hg k
  simp only [subD, subC]
  split
  · rw [Nat.mul_one]; omega
  · rw [Nat.mul_zero]; omega
theorem subD_lt {b : Nat} {f g : Nat → Nat} (hf : ∀ j, f j < b) (k : Nat) : subD b f g k < b := by
  have h2 := hf k
  simp only [subD, subC]
  split
  · rw [Nat.mul_one]; omega
  · rw [Nat.mul_zero]; omega
theorem sub_val {b : Nat} {f g : Nat → Nat} (hg : ∀ j, g j < b) (k : Nat) : val b (pre (subD b f g) k) + val b (pre g k) = val b (pre f k) + b ^ k * subC f g k := by
  induction k with
  | zero => simp [pre, val, subC]
  | succ k ih =>
    rw [val_pre, val_pre, val_pre]
    have e := congrArg (fun x => b ^ k * x) (subD_spec hg k : subD b f g k + (g k + subC f g k) = f k + b * subC f g (k + 1))
    simp only [Nat.mul_add] at e
    rw [Nat.pow_succ, Nat.mul_assoc]
    omega
/-- Of a number that is not less no borrow is left. -/
theorem subC_end {b : Nat} {xs ys : List Nat} (ax : All b xs) (ay : All b ys) (h0 : 0 < b) (hl : ys.length ≤ xs.length) (h : val b ys ≤ val b xs) : subC (nth xs) (nth ys) xs.length = 0 := by
  have e := sub_val (f := nth xs) (nth_lt h0 ay) xs.length
  rw [val_pre_more _ xs (Nat.le_refl _), val_pre_more _ ys hl] at e
  have l := val_lt (pre_all (k := xs.length) (fun j _ => subD_lt (g := nth ys) (nth_lt h0 ax) j))
  rw [pre_len] at l
  have c := subC_le (nth xs) (nth ys) xs.length
  by_cases hc : subC (nth xs) (nth ys) xs.length = 0
  · exact hc
  · rw [show subC (nth xs) (nth ys) xs.length = 1 by omega] at e
    omega
theorem sub_all {b : Nat} {xs ys : List Nat} (ax : All b xs) (ay : All b ys) (h0 : 0 < b) (hl : ys.length ≤ xs.length) (h : val b ys ≤ val b xs) :
    val b (pre (subD b (nth xs) (nth ys)) xs.length) = val b xs - val b ys := by
  have e := sub_val (f := nth xs) (nth_lt h0 ay) xs.length
  rw [val_pre_more _ xs (Nat.le_refl _), val_pre_more _ ys hl, subC_end ax ay h0 hl h] at e
  omega
/-- Where there is no borrow any more the rest stays. -/
theorem subC_rest {xs ys : List Nat} {k : Nat} (h : subC (nth xs) (nth ys) k = 0) (hk : ys.length ≤ k) (j : Nat) : subC (nth xs) (nth ys) (k + j) = 0 := by
  induction j with
  | zero => exact h
  | succ j ih =>
    rw [← Nat.add_assoc]
    simp only [subC]
    rw [ih, nth_out ys (by omega)]
    simp
theorem subD_rest {b : Nat} {xs ys : List Nat} {k : Nat} (h : subC (nth xs) (nth ys) k = 0) (hk : ys.length ≤ k) {j : Nat} (hj : k ≤ j) : subD b (nth xs) (nth ys) j = nth xs j := by
  obtain ⟨d, rfl⟩ : ∃ d, j = k + d := ⟨j - k, by omega⟩
  simp only [subD]
  rw [subC_rest h hk d, Nat.add_assoc, subC_rest h hk (d + 1), nth_out ys (by omega)]
  simp

/-- A carry that begins at c0: any addends s 0, s 1, .. -/
def chC (b : Nat) (s : Nat → Nat) (c0 : Nat) : Nat → Nat
  | 0 => c0
  | k + 1 => (chC b s c0 k + s k) / b
def chD (b : Nat) (s : Nat → Nat) (c0 k : Nat) : Nat := (chC b s c0 k + s k) % b
theorem ch_val (b : Nat) (s : Nat → Nat) (c0 k : Nat) : val b (pre (chD b s c0) k) + b ^ k * chC b s c0 k = c0 + val b (pre s k) := by
  induction k with
  | zero => simp [pre, val, chC]
  | succ k ih =>
    rw [val_pre, val_pre]
    have e : b ^ (k + 1) * chC b s c0 (k + 1) + b ^ k * chD b s c0 k = b ^ k * (chC b s c0 k + s k) := by
      simp only [chC, chD]
      rw [Nat.pow_succ, Nat.mul_assoc, ← Nat.mul_add, Nat.div_add_mod]
    rw [Nat.mul_add] at e
    omega
theorem chD_lt {b : Nat} (hb : 0 < b) (s : Nat → Nat) (c0 k : Nat) : chD b s c0 k < b := Nat.mod_lt _ hb
theorem val_mul (b m : Nat) (f : Nat → Nat) (k : Nat) : val b (pre (fun j => f j * m) k) = val b (pre f k) * m := by
  induction k with
  | zero => simp [pre, val]
  | succ k ih => rw [val_pre, val_pre, ih, Nat.add_mul, Nat.mul_assoc]
theorem val_add (b : Nat) (f g : Nat → Nat) (k : Nat) : val b (pre (fun j => f j + g j) k) = val b (pre f k) + val b (pre g k) := by
  induction k with
  | zero => simp [pre, val]
  | succ k ih => rw [val_pre, val_pre, val_pre, ih, Nat.mul_add]; omega
/-- Where each addend is below b m and the carry begins below m, it stays below m. -/
theorem chC_lt {b m : Nat} {s : Nat → Nat} {c0 : Nat} (hs : ∀ j, s j + m ≤ b * m) (h0 : c0 < m) (k : Nat) : chC b s c0 k < m := by
  induction k with
  | zero => exact h0
  | succ k ih =>
    simp only [chC]
    have := hs k
    exact Nat.div_lt_of_lt_mul (by omega)
theorem mul_room {x b m : Nat} (h : x < b) : x * m + m ≤ b * m := by
  have := Nat.mul_le_mul_right m (show x + 1 ≤ b from h)
  rw [Nat.add_mul, Nat.one_mul] at this
  exact this
/-- The digits of a number, moved down by a divisor of the base. -/
theorem div_digit {b d : Nat} (hb : 2 ≤ b) (hd : 0 < d) (hdb : b % d = 0) (xs : List Nat) {i : Nat} (hi : i < xs.length) :
    (nth xs (i + 1) * b + nth xs i) / d % b = nth (dig b (val b xs / d)) i ∨ ¬ All b xs := by
  by_cases ha : All b xs
  · refine .inl ?_
    rw [dig_nth hb, Nat.div_div_eq_div_mul, Nat.mul_comm d, ← Nat.div_div_eq_div_mul]
    have e1 : val b xs / b ^ i = val b (xs.drop i) := by
      rw [val_take_drop b xs (k := i) (by omega)]
      have l := val_lt (ha.take i)
      rw [List.length_take, Nat.min_eq_left (by omega)] at l
      rw [Nat.add_mul_div_left _ _ (Nat.pow_pos (by omega)), Nat.div_eq_of_lt l, Nat.zero_add]
    rw [e1, val_drop_step b xs hi]
    obtain ⟨q, hq⟩ : ∃ q, b = d * q := ⟨b / d, (Nat.mul_div_cancel' (Nat.dvd_of_mod_eq_zero hdb)).symm⟩
    have e2 : val b (xs.drop (i + 1)) = nth xs (i + 1) + b * val b (xs.drop (i + 2)) := by
      by_cases h : i + 1 < xs.length
      · exact val_drop_step b xs h
      · rw [List.drop_of_length_le (by omega), List.drop_of_length_le (by omega), nth_out xs (by omega)]; rfl
    rw [e2]
    generalize val b (xs.drop (i + 2)) = R
    generalize nth xs (i + 1) = y
    generalize nth xs i = x
    have e3 : x + b * (y + b * R) = (y * b + x) + d * (b * (q * R)) := by
      have : b * (b * R) = d * (b * (q * R)) := by
        calc b * (b * R) = b * ((d * q) * R) := by rw [← hq]
          _ = d * (b * (q * R)) := by rw [Nat.mul_assoc, Nat.mul_left_comm]
      rw [Nat.mul_add, this, Nat.mul_comm b y]
      omega
    rw [e3, Nat.add_mul_div_left _ _ hd, Nat.add_mul_mod_self_left]
  · exact .inr ha

theorem dig_len_of {b n k : Nat} (hb : 2 ≤ b) (h1 : b ^ k ≤ n) (h2 : n < b ^ (k + 1)) : (dig b n).length = k + 1 := by
  have h3 := dig_len_le hb (k + 1) n h2
  rcases Nat.lt_or_ge k (dig b n).length with h | h
  · omega
  · have := dig_lt_pow hb n
    have h4 : b ^ (dig b n).length ≤ b ^ k := Nat.pow_le_pow_right (by omega) h
    omega
theorem pow_split (n : Nat) : 2 ^ n = 4294967296 ^ (n / 32) * 2 ^ (n % 32) := by
  have h : (2 : Nat) ^ n = 2 ^ (32 * (n / 32) + n % 32) := by rw [Nat.div_add_mod]
  rw [h, Nat.pow_add, Nat.pow_mul]
theorem val_drop_div {b : Nat} {xs : List Nat} (ha : All b xs) {k : Nat} (hk : k ≤ xs.length) : val b (xs.drop k) = val b xs / b ^ k := by
  rw [val_take_drop b xs hk]
  have l := val_lt (ha.take k)
  rw [List.length_take, Nat.min_eq_left hk] at l
  rw [Nat.add_mul_div_left _ _ (by omega), Nat.div_eq_of_lt l, Nat.zero_add]
/-- How far a row is moved for a number n. -/
def shN (n : Int) : Nat := (min (max n 0) 65536).toNat
theorem shN_le (n : Int) : shN n ≤ 65536 := by unfold shN; omega

/-- A piece of n digits from k on, and the one behind it, laid anew. -/
def patch (Y Z : List Nat) (k n cy : Nat) : List Nat := Y.take k ++ (Z ++ (cy :: Y.drop (k + n + 1)))
theorem patch_len {Y Z : List Nat} {k n cy : Nat} (h : k + n < Y.length) (hZ : Z.length = n) : (patch Y Z k n cy).length = Y.length := by
  simp [patch, hZ]; omega
theorem patch_lo {Y Z : List Nat} {k n cy j : Nat} (h : k + n < Y.length) (hj : j < k) : nth (patch Y Z k n cy) j = nth Y j := by
  rw [patch, nth_app_lt _ _ (by rw [List.length_take]; omega), nth_take _ hj]
theorem patch_mid {Y Z : List Nat} {k n cy j : Nat} (h : k + n < Y.length) (hZ : Z.length = n) (hj : j < n) : nth (patch Y Z k n cy) (k + j) = nth Z j := by
  have ht : (Y.take k).length = k := by rw [List.length_take]; omega
  rw [patch, nth_app_ge _ _ (by omega), ht, Nat.add_sub_cancel_left, nth_app_lt _ _ (by omega)]
theorem patch_at {Y Z : List Nat} {k n cy : Nat} (h : k + n < Y.length) (hZ : Z.length = n) : nth (patch Y Z k n cy) (k + n) = cy := by
  have ht : (Y.take k).length = k := by rw [List.length_take]; omega
  rw [patch, nth_app_ge _ _ (by omega), ht, Nat.add_sub_cancel_left, nth_app_ge _ _ (by omega), hZ, Nat.sub_self]
  simp [nth]
theorem patch_hi {Y Z : List Nat} {k n cy j : Nat} (h : k + n < Y.length) (hZ : Z.length = n) (hj : k + n < j) : nth (patch Y Z k n cy) j = nth Y j := by
  have ht : (Y.take k).length = k := by rw [List.length_take]; omega
  rw [patch, nth_app_ge _ _ (by omega), ht, nth_app_ge _ _ (by omega), hZ]
  obtain ⟨i, rfl⟩ : ∃ i, j = k + n + 1 + i := ⟨j - (k + n + 1), by omega⟩
  rw [show k + n + 1 + i - k - n = i + 1 by omega]
  have : nth (cy :: Y.drop (k + n + 1)) (i + 1) = nth (Y.drop (k + n + 1)) i := by simp [nth]
  rw [this, nth_drop]
theorem patch_all {b : Nat} {Y Z : List Nat} {k n cy : Nat} (aY : All b Y) (aZ : All b Z) (hc : cy < b) : All b (patch Y Z k n cy) :=
  (aY.take k).app (aZ.app (All.cons hc (aY.drop _)))
theorem patch_drop {Y Z : List Nat} {k n cy : Nat} (h : k + n < Y.length) (hZ : Z.length = n) : (patch Y Z k n cy).drop (k + n + 1) = Y.drop (k + n + 1) := by
  have ht : (Y.take k).length = k := by rw [List.length_take]; omega
  rw [patch, List.drop_append, ht, List.drop_of_length_le (by omega), List.nil_append, List.drop_append, hZ, List.drop_of_length_le (by omega), List.nil_append]
  rw [show k + n + 1 - k - n = 1 by omega, List.drop_succ_cons, List.drop_zero]
theorem patch_val {b : Nat} {Y Z : List Nat} {k n cy T : Nat} (h : k + n < Y.length) (hb : 0 < b) (hz : val b (Y.drop (k + n)) = 0) (hZ : Z.length = n)
    (hv : val b Z + b ^ n * cy = T + val b ((Y.drop k).take n)) : val b (patch Y Z k n cy) = val b Y + b ^ k * T ∧ val b ((patch Y Z k n cy).drop (k + 1 + n)) = 0 := by
  have ht : (Y.take k).length = k := by rw [List.length_take]; omega
  have e0 := val_drop_step b Y (k := k + n) h
  rw [hz] at e0
  have z1 : val b (Y.drop (k + n + 1)) = 0 := by
    rcases Nat.eq_zero_or_pos (val b (Y.drop (k + n + 1))) with h1 | h1
    · exact h1
    · have := Nat.mul_pos hb h1; omega
  constructor
  · have e1 := val_take_drop b Y (k := k) (by omega)
    have e2 := val_take_drop b (Y.drop k) (k := n) (by rw [List.length_drop]; omega)
    rw [List.drop_drop, hz] at e2
    rw [patch, val_app, val_app, ht, hZ]
    simp only [val, z1, Nat.mul_zero, Nat.add_zero] at e2 ⊢
    rw [hv, e1, e2, Nat.mul_add]
    omega
  · rw [show k + 1 + n = k + n + 1 by omega, patch_drop h hZ, z1]

theorem nth_set_at {xs : List Nat} {k : Nat} (t : Nat) (h : k < xs.length) : nth (xs.set k t) k = t := by simp [nth, h]
theorem nth_set_ne (xs : List Nat) {k j : Nat} (t : Nat) (h : j ≠ k) : nth (xs.set k t) j = nth xs j := by
  simp [nth, List.getElem?_set_ne (show k ≠ j from fun e => h e.symm)]
theorem All.set {b t : Nat} {xs : List Nat} (h : All b xs) (ht : t < b) (k : Nat) : All b (xs.set k t) := by
  intro y hy
  rcases List.mem_or_eq_of_mem_set hy with h1 | h1
  · exact h y h1
  · subst h1; exact ht
theorem set_drop_val {b k : Nat} {xs : List Nat} (t : Nat) (h : k < xs.length) : val b ((xs.set k t).drop k) = t + b * val b (xs.drop (k + 1)) := by
  rw [val_drop_step b _ (by rw [List.length_set]; exact h), nth_set_at t h, List.drop_set_of_lt (by omega)]

theorem cmpN_swap (m n : Nat) : cmpN m n = -cmpN n m := by
  unfold cmpN
  rcases Nat.lt_trichotomy m n with h | h | h
  · rw [if_pos h, if_neg (by omega), if_neg (by omega)]
  · subst h; simp
  · rw [if_neg (by omega), if_neg (by omega), if_pos h]; rfl
theorem cmpN_le {m n : Nat} : cmpN m n ≤ 0 ↔ m ≤ n := by
  unfold cmpN
  rcases Nat.lt_trichotomy m n with h | h | h
  · rw [if_pos h]; omega
  · subst h; simp
  · rw [if_neg (by omega), if_neg (by omega)]; omega
theorem cmpN_ge {m n : Nat} (h : n ≤ m) : 0 ≤ cmpN m n := by
  unfold cmpN
  rw [if_neg (by omega)]
  split <;> omega
theorem cmpN_bd (m n : Nat) : -1 ≤ cmpN m n ∧ cmpN m n ≤ 1 := by
  unfold cmpN
  split
  · omega
  · split <;> omega
theorem cmpN_zero {m n : Nat} (h : m = n) : cmpN m n = 0 := by subst h; exact cmpN_eq m
theorem shN_of {k : Nat} (h : k ≤ 65536) : shN (k : Int) = k := by unfold shN; omega
theorem bits_lt (n : Nat) : n < 2 ^ (dig 2 n).length := dig_lt_pow (by omega) n
theorem bits_ge {n : Nat} (h : (dig 2 n).length ≠ 0) : 2 ^ ((dig 2 n).length - 1) ≤ n := pow_le_dig (by omega) h
theorem bits_le {n k : Nat} (h : n < 2 ^ k) : (dig 2 n).length ≤ k := dig_len_le (by omega) k n h
theorem val_lt32 {xs : List Nat} (h : All 4294967296 xs) {n : Nat} (hn : xs.length ≤ n) : val 4294967296 xs < 2 ^ (32 * n) := by
  rw [Nat.pow_mul]
  exact Nat.lt_of_lt_of_le (val_lt h) (Nat.pow_le_pow_right (by omega) hn)
theorem dig_len32 {n k : Nat} (h : n < 2 ^ (32 * k)) : (dig 4294967296 n).length ≤ k := dig_len_le (by omega) k n (by rw [Nat.pow_mul] at h; exact h)

theorem bits_le32 {xs : List Nat} (h : All 4294967296 xs) {n : Nat} (hn : xs.length ≤ n) : (dig 2 (val 4294967296 xs)).length ≤ 32 * n := bits_le (val_lt32 h hn)

/-- A multiple taken away: the carry (with the borrow) and the digit. -/
def msC (b : Nat) (p y : Nat → Nat) (x : Nat) : Nat → Nat
  | 0 => 0
  | k + 1 => (msC b p y x k + x * y k) / b + if p k < (msC b p y x k + x * y k) % b then 1 else 0
def msD (b : Nat) (p y : Nat → Nat) (x k : Nat) : Nat :=
  if p k < (msC b p y x k + x * y k) % b then p k + b - (msC b p y x k + x * y k) % b else p k - (msC b p y x k + x * y k) % b
theorem ms_step {b : Nat} (hb : 0 < b) (p y : Nat → Nat) (x k : Nat) : msD b p y x k + (msC b p y x k + x * y k) = p k + b * msC b p y x (k + 1) := by
  simp only [msD, msC]
  generalize msC b p y x k + x * y k = t
  have h1 := Nat.div_add_mod t b
  have h2 := Nat.mod_lt t hb
  rw [Nat.mul_add]
  split
  · rw [Nat.mul_one]; omega
  · rw [Nat.mul_zero]; omega
theorem msC_lt {b : Nat} {p y : Nat → Nat} {x : Nat} (hx : x < b) (hy : ∀ j, y j < b) (k : Nat) : msC b p y x k < b := by
  induction k with
  | zero => simp only [msC]; omega
  | succ k ih =>
    simp only [msC]
    have h1 : x * y k ≤ (b - 1) * (b - 1) := Nat.mul_le_mul (by omega) (by have := hy k; omega)
    obtain ⟨d, rfl⟩ : ∃ d, b = d + 1 := ⟨b - 1, by omega⟩
    rw [Nat.add_sub_cancel] at h1
    generalize ht : msC (d + 1) p y x k + x * y k = t at *
    have h2 : t ≤ d * (d + 1) := by rw [Nat.mul_add, Nat.mul_one]; omega
    have h3 : t / (d + 1) ≤ d := by
      have := Nat.div_le_div_right (c := d + 1) h2
      rwa [Nat.mul_div_cancel _ (by omega)] at this
    split
    · rename_i h4
      by_cases h5 : t / (d + 1) = d
      · have h6 := Nat.div_add_mod t (d + 1)
        rw [h5, Nat.mul_comm] at h6
        omega
      · omega
    · omega
theorem msD_lt {b : Nat} {p y : Nat → Nat} {x : Nat} (hb : 0 < b) (hp : ∀ j, p j < b) (k : Nat) : msD b p y x k < b := by
  have h1 := hp k
  have h2 := Nat.mod_lt (msC b p y x k + x * y k) hb
  simp only [msD]
  split <;> omega
theorem ms_val {b : Nat} (hb : 0 < b) (p y : Nat → Nat) (x k : Nat) : val b (pre (msD b p y x) k) + x * val b (pre y k) = val b (pre p k) + b ^ k * msC b p y x k := by
  induction k with
  | zero => simp [pre, val, msC]
  | succ k ih =>
    rw [val_pre, val_pre, val_pre]
    have e := congrArg (fun z => b ^ k * z) (ms_step hb p y x k)
    simp only [Nat.mul_add] at e
    rw [Nat.mul_add, Nat.mul_left_comm x (b ^ k), Nat.pow_succ, Nat.mul_assoc]
    omega

/-- Z laid over R from k on. -/
def over (R Z : List Nat) (k : Nat) : List Nat := R.take k ++ (Z ++ R.drop (k + Z.length))
theorem over_len {R Z : List Nat} {k : Nat} (h : k + Z.length ≤ R.length) : (over R Z k).length = R.length := by
  simp [over]; omega
theorem over_all {b : Nat} {R Z : List Nat} (hR : All b R) (hZ : All b Z) (k : Nat) : All b (over R Z k) := (hR.take k).app (hZ.app (hR.drop _))
theorem over_in {R Z : List Nat} {k j : Nat} (h : k + Z.length ≤ R.length) (hj : j < Z.length) : nth (over R Z k) (k + j) = nth Z j := by
  have ht : (R.take k).length = k := by rw [List.length_take]; omega
  rw [over, nth_app_ge _ _ (by omega), ht, Nat.add_sub_cancel_left, nth_app_lt _ _ hj]
theorem over_out {R Z : List Nat} {k j : Nat} (h : k + Z.length ≤ R.length) (hj : j < k ∨ k + Z.length ≤ j) : nth (over R Z k) j = nth R j := by
  have ht : (R.take k).length = k := by rw [List.length_take]; omega
  rcases hj with hj | hj
  · rw [over, nth_app_lt _ _ (by omega), nth_take _ hj]
  · rw [over, nth_app_ge _ _ (by omega), ht, nth_app_ge _ _ (by omega), nth_drop]
    congr 1
    omega
theorem over_take {R Z : List Nat} {k : Nat} (h : k + Z.length ≤ R.length) : (over R Z k).take k = R.take k := by
  have ht : (R.take k).length = k := by rw [List.length_take]; omega
  rw [over, List.take_append_of_le_length (by omega), List.take_of_length_le (by omega)]
theorem over_mid {R Z : List Nat} {k : Nat} (h : k + Z.length ≤ R.length) : ((over R Z k).drop k).take Z.length = Z := by
  have ht : (R.take k).length = k := by rw [List.length_take]; omega
  rw [over, List.drop_append, ht, List.drop_of_length_le (by omega), Nat.sub_self, List.drop_zero, List.nil_append, List.take_append_of_le_length (Nat.le_refl _), List.take_length]
theorem over_val {b : Nat} {R Z : List Nat} {k : Nat} (h : k + Z.length ≤ R.length) (hz : val b (R.drop (k + Z.length)) = 0) : val b (over R Z k) = val b (R.take k) + b ^ k * val b Z := by
  have ht : (R.take k).length = k := by rw [List.length_take]; omega
  rw [over, val_app, val_app, ht, hz]; simp
/-- The piece of a number that is not too great. -/
theorem piece_val {b : Nat} {R : List Nat} {k n D : Nat} (hb : 0 < b) (hk : k + n + 1 ≤ R.length) (hD : D < b ^ n) (hv : val b R < D * b ^ (k + 1)) :
    val b R = val b (R.take k) + b ^ k * val b ((R.drop k).take (n + 1)) ∧ val b ((R.drop k).take (n + 1)) < D * b ∧ val b (R.drop (k + n + 1)) = 0 := by
  have e1 := val_take_drop b R (k := k) (by omega)
  have hp : 0 < b ^ k := Nat.pow_pos hb
  have l1 : val b (R.drop k) < D * b := by
    have h1 : b ^ k * val b (R.drop k) < b ^ k * (D * b) := by
      have : D * b ^ (k + 1) = b ^ k * (D * b) := by rw [Nat.pow_succ, Nat.mul_left_comm]
      omega
    exact Nat.lt_of_mul_lt_mul_left h1
  have e2 := val_take_drop b (R.drop k) (k := n + 1) (by rw [List.length_drop]; omega)
  rw [List.drop_drop, show k + (n + 1) = k + n + 1 by omega] at e2
  have l2 : D * b ≤ b ^ (n + 1) := by rw [Nat.pow_succ]; exact Nat.mul_le_mul_right b (Nat.le_of_lt hD)
  have z : val b (R.drop (k + n + 1)) = 0 := by
    rcases Nat.eq_zero_or_pos (val b (R.drop (k + n + 1))) with h | h
    · exact h
    · have := Nat.mul_le_mul_left (b ^ (n + 1)) h
      omega
  rw [z, Nat.mul_zero, Nat.add_zero] at e2
  exact ⟨by rw [← e2]; exact e1, by rw [← e2]; exact l1, z⟩
/-- The division of both by a common factor. -/
theorem div_shift {A B Q R t : Nat} (ht : 0 < t) (h : A * t = B * t * Q + R) (hR : R < B * t) : A / B = Q ∧ A % B = R / t := by
  have hB : 0 < B := Nat.pos_of_ne_zero (fun h0 => by subst h0; omega)
  have e1 : B * t * Q = B * Q * t := by rw [Nat.mul_right_comm]
  have e2 : B * Q ≤ A := by
    have : B * Q * t ≤ A * t := by omega
    exact Nat.le_of_mul_le_mul_right this ht
  obtain ⟨r, rfl⟩ : ∃ r, A = B * Q + r := ⟨A - B * Q, by omega⟩
  have e3 : R = r * t := by rw [Nat.add_mul] at h; omega
  have e4 : r < B := by rw [e3] at hR; exact Nat.lt_of_mul_lt_mul_right hR
  constructor
  · rw [Nat.mul_add_div hB, Nat.div_eq_of_lt e4]; omega
  · rw [Nat.mul_add_mod, Nat.mod_eq_of_lt e4, e3, Nat.mul_div_cancel _ ht]
/-- What is left where the digit was one too great, and is mended. -/
theorem mend {P D q z z2 cc M : Nat} (hD : 0 < D) (hq : q ≤ P / D + 1) (hs : P < q * D) (h1 : z + q * D = P + M) (h2 : z2 + M * cc = z + D) (hz2 : z2 < M) (hM : D < M) : q - 1 = P / D ∧ z2 = P % D := by
  have e0 := Nat.div_add_mod P D
  have e1 := Nat.mod_lt P hD
  have e2 : q = P / D + 1 := by
    rcases Nat.lt_or_ge q (P / D + 1) with h | h
    · have := Nat.mul_le_mul_right D (Nat.le_of_lt_succ h)
      rw [Nat.mul_comm (P / D)] at this
      omega
    · exact Nat.le_antisymm hq h
  subst e2
  refine ⟨rfl, ?_⟩
  rw [Nat.add_mul, Nat.one_mul, Nat.mul_comm (P / D)] at h1
  generalize P % D = r at *
  generalize D * (P / D) = x at *
  have h3 : z2 + M * cc = M + r := by omega
  cases cc with
  | zero => omega
  | succ cc =>
    rw [Nat.mul_add, Nat.mul_one] at h3
    cases cc with
    | zero => omega
    | succ cc => rw [Nat.mul_add, Nat.mul_one] at h3; omega
theorem nomend {P D q z : Nat} (hD : 0 < D) (lo : P / D ≤ q) (h1 : z + q * D = P) : q = P / D ∧ z = P % D := by
  have e0 := Nat.div_add_mod P D
  have e2 : q ≤ P / D := by rw [Nat.le_div_iff_mul_le hD]; omega
  have e3 : q = P / D := Nat.le_antisymm e2 lo
  refine ⟨e3, ?_⟩
  rw [e3, Nat.mul_comm] at h1
  omega

end Go.Proofs.Yteblgmjpociffaa
