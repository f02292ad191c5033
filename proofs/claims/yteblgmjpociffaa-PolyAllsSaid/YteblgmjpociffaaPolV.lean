/- poly.Lead, and what poly.Move is made of: widened, narrowed, shift. -/
import Derived.Test.YteblgmjpociffaaPolU
namespace Go.Proofs.Yteblgmjpociffaa.Sym
open Go.RowKit
/-- The numbers from the top down that are there behind j rounds. -/
def dto (m j : Nat) (f : Nat → Int) (i : Nat) : Int := if m - j ≤ i ∧ i < m then f i else 0
theorem dto_zero {m i : Nat} {f : Nat → Int} : dto m 0 f i = 0 := if_neg (by omega)
theorem dto_ne {m j i : Nat} {f : Nat → Int} (hj : j < m) (h : i ≠ m - 1 - j) : dto m (j + 1) f i = dto m j f i := by
  unfold dto
  split <;> split <;> first | rfl | omega
theorem dto_at {m j : Nat} {z : Nat → Int} {d : Int} (hj : j < m) : dto m (j + 1) (fun i => z i * d ^ (m - 1 - i)) (m - 1 - j) = z (m - 1 - j) * d ^ j := by
  unfold dto
  rw [if_pos (by omega)]
  show z _ * d ^ (m - 1 - (m - 1 - j)) = _
  rw [show m - 1 - (m - 1 - j) = j by omega]
/-- S j: the numbers behind j rounds of shift. -/
structure IsShift (S : Nat → Nat → Int) (u : Int) (n : Nat) : Prop where
  low : ∀ j i, j < n → i < j → S (j + 1) i = S j i
  top : ∀ j, j < n → S (j + 1) (n - 1) = S j (n - 1)
  step : ∀ j i, j ≤ i → i + 1 < n → S (j + 1) i = S j i + S (j + 1) (i + 1) * u
/-- .. and those of a round half done. -/
def mid (S : Nat → Nat → Int) (n j i a : Nat) : Int := if n - 1 - i ≤ a then S (j + 1) a else S j a
section
variable {S : Nat → Nat → Int} {u : Int} {n j i a : Nat}
theorem mid_zero (h : IsShift S u n) (hj : j < n) (ha : a < n) : mid S n j 0 a = S j a := by
  unfold mid
  split
  · have : a = n - 1 := by omega
    rw [this]; exact h.top j hj
  · rfl
theorem mid_ne (_ : i < n - 1) (h : a ≠ n - 2 - i) : mid S n j (i + 1) a = mid S n j i a := by
  unfold mid
  split <;> split <;> first | rfl | omega
theorem mid_full (h : IsShift S u n) (hj : j < n) (_ : a < n) : mid S n j (n - 1 - j) a = S (j + 1) a := by
  unfold mid
  split
  · rfl
  · exact (h.low j a hj (by omega)).symm
theorem mid_at (h : IsShift S u n) (hj : j < n) (hi : i < n - 1 - j) : mid S n j i (n - 2 - i) + mid S n j i (n - 1 - i) * u = mid S n j (i + 1) (n - 2 - i) := by
  unfold mid
  rw [if_neg (by omega), if_pos (by omega), if_pos (by omega), h.step j (n - 2 - i) (by omega) (by omega), show n - 2 - i + 1 = n - 1 - i by omega]
theorem mid_bd {K : Nat} (hM : ∀ j a, j ≤ n → a < n → Bd (S j a).natAbs K) (hj : j < n) (ha : a < n) : Bd (mid S n j i a).natAbs K := by
  unfold mid
  split
  · exact hM _ _ (by omega) ha
  · exact hM _ _ (by omega) ha
end
def b_pwide (z : Nat → Int) (n k : Nat) (d : Int) (kd K : Nat) : List (World → Value → Prop) := [fun w v => Rw 2 (fun ι w v => IntV w v (z ι) k) n w v, fun w v => IntV w v d kd, fun w v => Rw 2 (fun ι w v => IntV w v (z ι) k) (tl z n) w v, fun _ v => v = .int .i64 (((tl z n) : Nat) : Int), fun w v => ArrO 2 36 (fun ι w v => NorV w v ((dto (tl z n) 0 (fun i => z i * d ^ ((tl z n) - 1 - i))) ι) K) (tl z n) w v, fun w v => NorV w v (1 : Int) 2, fun _ v => v = .int .i64 ((((tl z n) : Nat) : Int) - 1), fun w v => ArrO 2 36 (fun ι w v => NorV w v ((dto (tl z n) (tl z n) (fun i => z i * d ^ ((tl z n) - 1 - i))) ι) K) (tl z n) w v]
def l_pwide_1 (z : Nat → Int) (n k : Nat) (d : Int) (kd kp K : Nat) (j : Nat) : List (World → Value → Prop) := [fun _ v => v = .int .i64 ((((tl z n) : Nat) : Int) - 1 - ((j : Nat) : Int)), fun w v => ArrO 2 36 (fun ι w v => NorV w v ((dto (tl z n) j (fun i => z i * d ^ ((tl z n) - 1 - i))) ι) K) (tl z n) w v, fun _ _ => True, fun w v => NorV w v (d ^ j) kp, fun w v => Ptr 2 (fun w v => IntV w v (z ((tl z n) - 1 - j)) k) w v, fun w v => IntV w v (z ((tl z n) - 1 - j)) k, fun w v => NorV w v ((z ((tl z n) - 1 - j)) * (d ^ j)) (k + kp), At 2, fun w v => Ptr 2 (fun w v => NorV w v ((dto (tl z n) j (fun i => z i * d ^ ((tl z n) - 1 - i))) ((tl z n) - 1 - j)) K) w v, fun w v => ArrO 2 36 (fun ι w v => NorV w v ((dto (tl z n) (j + 1) (fun i => z i * d ^ ((tl z n) - 1 - i))) ι) K) (tl z n) w v, fun w v => NorV w v ((d ^ j) * d) (kp + kd), fun _ v => v = .int .i64 (((((tl z n) : Nat) : Int) - 1 - ((j : Nat) : Int)) - 1)]
def d_pwide_1 : LoopD := ⟨[0, 1, 3, 4, 6, 8, 9, 10, 11, 12, 13, 14, 15], [(.slot 7, .i), (.slot 5, .s), (.cell 10 0, .b), (.cell 10 1, .s)], [(.one 0, 8), (.one 1, .at [1] 9), (.one 1, .lo 1), (.agg [2, 3], 11)], [.from 6, .from 4, .from 0, .from 5], 8, [(9, 7)]⟩
def r_pwide_1_0 : List Step := [.base ⟨0, [.fact 8, .lit (.ci .i64 0)], [⟨.one (.lit (.cb true)), []⟩], .quiet (mBin .geq)⟩,
      .base ⟨0, [.fact 2, .fact 8], [⟨.one (.p), [(0, 0, 12)]⟩], .quiet (mIdx 23)⟩,
      .base ⟨0, [.fact 12], [⟨.agg [.b, .s], [(0, 0, 13)]⟩], .quiet (mLoad 36)⟩,
      .base ⟨52, [.fact 13, .fact 11], [⟨.agg [.b, .s], [(0, 0, 14)]⟩], false⟩,
      .base ⟨0, [.fact 9, .fact 8], [⟨.one (.p), [(0, 0, 16)]⟩], .joint [1] 15 (mIdx 23)⟩,
      .base ⟨0, [.fact 9, .fact 8, .any, .fact 14], [⟨.one .s, [(0, 0, 17)]⟩], .put [] 1 0 15 (mPut 36 (.tmp 20) (.tmp 21))⟩,
      .base ⟨52, [.fact 11, .fact 1], [⟨.agg [.b, .s], [(0, 0, 18)]⟩], false⟩,
      .base ⟨0, [.fact 8, .lit (.ci .i64 1)], [⟨.one (.i), [(0, 0, 19)]⟩], .quiet (mBin .sub)⟩]
def o_pwide_1 : List Step := [.base ⟨0, [.fact 8, .lit (.ci .i64 0)], [⟨.one (.lit (.cb false)), []⟩], .quiet (mBin .geq)⟩]
def ss_pwide : List Step := [.base ⟨51, [.fact 0], [⟨.one (.s), [(0, 0, 2)]⟩], false⟩,
      .base ⟨0, [.fact 2], [⟨.one (.i), [(0, 0, 3)]⟩], .quiet (mLen 23)⟩,
      .base ⟨0, [.fact 3, .fact 3], [⟨.one (.s), [(0, 0, 4)]⟩], .loose [] 1 0 (mMake 23)⟩,
      .base ⟨55, [.lit (.ci .i64 1)], [⟨.agg [.b, .s], [(0, 0, 5)]⟩], false⟩,
      .base ⟨54, [.fact 2], [⟨.one (.i), [(0, 0, 6)]⟩], false⟩,
      .loop d_pwide_1 [(r_pwide_1_0, [.from 19, .from 17, .from 0, .from 18])] o_pwide_1]
def ins_pwide : List Out := [⟨.one (.s), [(0, 0, 0)]⟩, ⟨.agg [.b, .s], [(0, 0, 1)]⟩]
set_option maxRecDepth 100000 in
theorem pwide {z : Nat → Int} {n k : Nat} {d : Int} {kd kp K : Nat} (hn : n ≤ 1000000) (hk : k ≤ 400000) (hkd : kd ≤ 100000) (hkp : kp ≤ 100000) (hK : k + kp ≤ K) (hB : ∀ j, j ≤ tl z n → Bd (d ^ j).natAbs kp) : CallNOk (ph (b_pwide z n k d kd K)) Try.prog ⟨68, [.fact 0, .fact 1], [⟨.one (.s), [(0, 0, 7)]⟩], false⟩ := by
  have hle := tl_le z n
  exact fn_okF ins_pwide [⟨.one (.s), [(0, 0, 7)]⟩] ss_pwide Try.func68 (by kernel_rfl)
    (lbase (sTrim (z := z) (n := n) (k := k) (F := (fun ι w v => IntV w v (z ι) k)) (fun _ _ h => h) (fun _ _ _ h => h) (fun _ _ _ _ g h => IntV.kp h g) rfl (by omega) (by omega))
      (lbase (qLen (sz := 2) (n := (tl z n)) (F := (fun ι w v => IntV w v (z ι) k)) Try.underlying23 (fun _ _ h => Rw.arr h) rfl)
      (lbase (qMakeI (n := (tl z n)) (F := (fun ι w v => NorV w v ((dto (tl z n) 0 (fun i => z i * d ^ ((tl z n) - 1 - i))) ι) K)) (fun _ _ h => h) (by omega) (fun i w => by rw [dto_zero]; exact NorV.zero w K) rfl)
      (lbase (sOf (z := 1) rfl (by decide) (by decide) rfl)
      (lbase (sDeg (n := (tl z n)) (fun _ _ h => Rw.lenS (sz := 2) (F := (fun ι w v => IntV w v (z ι) k)) (n := (tl z n)) h) rfl (by omega) (rfl))
      (lloop (counted (tl z n) (fun j => ph (b_pwide z n k d kd K ++ l_pwide_1 z n k d kd kp K j)) (fun _ => 0) (fun j p hp => ph_app' (show p < (b_pwide z n k d kd K).length from hp)) ⟨fun _ _ h => h.trans (congrArg (Value.int .i64) (by omega)), fun _ _ h => h, fun _ _ _ => trivial, fun _ _ h => NorV.re (h.eq (by rw [Int.pow_zero])) (hB 0 (by omega)), trivial⟩ (fun j hj => by
      skip
      exact ⟨(r_pwide_1_0, [.from 19, .from 17, .from 0, .from 18]), rfl, ⟨fun _ _ h => h.trans (congrArg (Value.int .i64) (by omega)), fun _ _ h => h, fun _ _ _ => trivial, fun _ _ h => NorV.re (h.eq (by rw [Int.pow_succ])) (hB (j + 1) (by omega)), trivial⟩, (lbase (qTestC (op := .geq) (fun _ _ h => h) (ts_run (decide_eq_true (by omega)) (by simp)))
      (lbase (qIdx (i := ((tl z n) - 1 - j)) (sz := 2) (n := (tl z n)) (F := (fun ι w v => IntV w v (z ι) k)) Try.underlying23 (by kernel_rfl) (fun _ _ h => Rw.arr h) (fun _ _ h => h.trans (congrArg (Value.int .i64) (by omega))) (by omega) rfl)
      (lbase (qLoad (sz := 2) (F := fun w v => IntV w v (z ((tl z n) - 1 - j)) k) (by kernel_rfl) (by kernel_rfl) (fun _ _ h => h) (fun _ _ _ g h => IntV.kp h g) (fun _ _ h => IntV.is h) rfl)
      (lbase (sMul iI nI rfl (by omega) rfl)
      (lbase (qIdxJ (i := ((tl z n) - 1 - j)) (sz := 2) (n := (tl z n)) (F := (fun ι w v => NorV w v ((dto (tl z n) j (fun i => z i * d ^ ((tl z n) - 1 - i))) ι) K)) Try.underlying23 (by kernel_rfl) (fun _ _ h => ArrO.arr h) (fun _ _ h => h.trans (congrArg (Value.int .i64) (by omega))) (by omega) rfl rfl)
      (lbase (qPutR (i := ((tl z n) - 1 - j)) (n := (tl z n)) (F := (fun ι w v => NorV w v ((dto (tl z n) j (fun i => z i * d ^ ((tl z n) - 1 - i))) ι) K)) (F' := (fun ι w v => NorV w v ((dto (tl z n) (j + 1) (fun i => z i * d ^ ((tl z n) - 1 - i))) ι) K)) (G := fun w v => NorV w v ((z ((tl z n) - 1 - j)) * (d ^ j)) (k + kp)) (.tmp 20) (.tmp 21) (by kernel_rfl) (fun _ _ h => h) (fun _ _ h => h.trans (congrArg (Value.int .i64) (by omega))) (by omega) (fun _ _ h => h) rfl (fun _ _ h => NorV.cells h) (fun _ _ _ _ g h => NorV.kp h g) (fun _ _ _ g h => NorV.kp h g) (fun i w v hi h => by rw [dto_ne (by omega) hi]; exact h) (fun w v h => NorV.more (h.eq (dto_at hj).symm) (by omega)) rfl)
      (lbase (sMul nI iI rfl (by omega) rfl)
      (lbase (qSubK (fun _ _ h => h) (rfl) rfl (by omega) (by omega))
      lnil))))))))⟩)
      (lbase (qTestC (op := .geq) (fun _ _ h => h) (ts_run (decide_eq_false (by omega)) (by simp)))
      lnil)
      (fun q hq w v h => by
        simp only [d_pwide_1, List.mem_cons, List.not_mem_nil, or_false] at hq
        rcases hq with rfl
        · exact (fun h => h) h)) lnil))))))
    (ins_ok [.fact 0 (.one (.s)), .fact 1 (.agg [.b, .s])] ⟨fun _ _ h => Rw.is (sz := 2) (F := (fun ι w v => IntV w v (z ι) k)) (n := n) h, fun _ _ h => IntV.is h, trivial⟩) (fun _ _ _ h => h)

def b_pnarr (z : Nat → Int) (n k : Nat) (d : Int) (kd K : Nat) : List (World → Value → Prop) := [fun w v => Rw 2 (fun ι w v => IntV w v (z ι) k) n w v, fun w v => IntV w v d kd, fun _ v => v = .int .i64 ((n : Nat) : Int), fun w v => ArrO 2 36 (fun ι w v => NorV w v ((upto 0 (fun i => z i * d ^ i)) ι) K) n w v, fun w v => NorV w v (1 : Int) 2, fun _ v => v = .int .i64 ((n : Nat) : Int), fun w v => ArrO 2 36 (fun ι w v => NorV w v ((upto n (fun i => z i * d ^ i)) ι) K) n w v]
def l_pnarr_1 (z : Nat → Int) (n k : Nat) (d : Int) (kd kp K : Nat) (j : Nat) : List (World → Value → Prop) := [fun _ v => v = .int .i64 ((j : Nat) : Int), fun w v => ArrO 2 36 (fun ι w v => NorV w v ((upto j (fun i => z i * d ^ i)) ι) K) n w v, fun _ _ => True, fun w v => NorV w v (d ^ j) kp, fun w v => Ptr 2 (fun w v => IntV w v (z j) k) w v, fun w v => IntV w v (z j) k, fun w v => NorV w v ((z j) * (d ^ j)) (k + kp), At 2, fun w v => Ptr 2 (fun w v => NorV w v ((upto j (fun i => z i * d ^ i)) j) K) w v, fun w v => ArrO 2 36 (fun ι w v => NorV w v ((upto (j + 1) (fun i => z i * d ^ i)) ι) K) n w v, fun w v => NorV w v ((d ^ j) * d) (kp + kd), fun _ v => v = .int .i64 (((j + 1) : Nat) : Int)]
def d_pnarr_1 : LoopD := ⟨[0, 1, 3, 4, 6, 9, 10, 11, 12, 13, 14], [(.slot 15, .i), (.slot 5, .s), (.cell 7 0, .b), (.cell 7 1, .s)], [(.one 0, 7), (.one 1, .at [1] 8), (.one 1, .lo 1), (.agg [2, 3], 10)], [.closed (.one (.ci .i64 0)), .from 3, .from 0, .from 4], 7, [(8, 6)]⟩
def r_pnarr_1_0 : List Step := [.base ⟨0, [.fact 7, .fact 5], [⟨.one (.lit (.cb true)), []⟩], .quiet (mBin .lss)⟩,
      .base ⟨0, [.fact 0, .fact 7], [⟨.one (.p), [(0, 0, 11)]⟩], .quiet (mIdx 23)⟩,
      .base ⟨0, [.fact 11], [⟨.agg [.b, .s], [(0, 0, 12)]⟩], .quiet (mLoad 36)⟩,
      .base ⟨52, [.fact 12, .fact 10], [⟨.agg [.b, .s], [(0, 0, 13)]⟩], false⟩,
      .base ⟨0, [.fact 8, .fact 7], [⟨.one (.p), [(0, 0, 15)]⟩], .joint [1] 14 (mIdx 23)⟩,
      .base ⟨0, [.fact 8, .fact 7, .any, .fact 13], [⟨.one .s, [(0, 0, 16)]⟩], .put [] 1 0 14 (mPut 36 (.tmp 20) (.tmp 21))⟩,
      .base ⟨52, [.fact 10, .fact 1], [⟨.agg [.b, .s], [(0, 0, 17)]⟩], false⟩,
      .base ⟨0, [.fact 7, .lit (.ci .i64 1)], [⟨.one (.i), [(0, 0, 18)]⟩], .quiet (mBin .add)⟩]
def o_pnarr_1 : List Step := [.base ⟨0, [.fact 7, .fact 5], [⟨.one (.lit (.cb false)), []⟩], .quiet (mBin .lss)⟩]
def ss_pnarr : List Step := [.base ⟨0, [.fact 0], [⟨.one (.i), [(0, 0, 2)]⟩], .quiet (mLen 23)⟩,
      .base ⟨0, [.fact 2, .fact 2], [⟨.one (.s), [(0, 0, 3)]⟩], .loose [] 1 0 (mMake 23)⟩,
      .base ⟨55, [.lit (.ci .i64 1)], [⟨.agg [.b, .s], [(0, 0, 4)]⟩], false⟩,
      .base ⟨0, [.fact 0], [⟨.one (.i), [(0, 0, 5)]⟩], .quiet (mLen 23)⟩,
      .loop d_pnarr_1 [(r_pnarr_1_0, [.from 18, .from 16, .from 0, .from 17])] o_pnarr_1]
def ins_pnarr : List Out := [⟨.one (.s), [(0, 0, 0)]⟩, ⟨.agg [.b, .s], [(0, 0, 1)]⟩]
set_option maxRecDepth 100000 in
theorem pnarr {z : Nat → Int} {n k : Nat} {d : Int} {kd kp K : Nat} (hn : n ≤ 1000000) (hk : k ≤ 400000) (hkd : kd ≤ 100000) (hkp : kp ≤ 100000) (hK : k + kp ≤ K) (hB : ∀ j, j ≤ n → Bd (d ^ j).natAbs kp) : SiteOk (ph (b_pnarr z n k d kd K)) Try.prog ⟨70, [.fact 0, .fact 1], [⟨.one (.s), [(0, 0, 6)]⟩], false⟩ := by
  skip
  exact fn_okL ins_pnarr [⟨.one (.s), [(0, 0, 6)]⟩] ss_pnarr Try.func70 (by kernel_rfl)
    (lbase (qLen (sz := 2) (n := n) (F := (fun ι w v => IntV w v (z ι) k)) Try.underlying23 (fun _ _ h => Rw.arr h) rfl)
      (lbase (qMakeI (n := n) (F := (fun ι w v => NorV w v ((upto 0 (fun i => z i * d ^ i)) ι) K)) (fun _ _ h => h) (by omega) (fun i w => NorV.zero w K) rfl)
      (lbase (sOf (z := 1) rfl (by decide) (by decide) rfl)
      (lbase (qLen (sz := 2) (n := n) (F := (fun ι w v => IntV w v (z ι) k)) Try.underlying23 (fun _ _ h => Rw.arr h) rfl)
      (lloop (counted n (fun j => ph (b_pnarr z n k d kd K ++ l_pnarr_1 z n k d kd kp K j)) (fun _ => 0) (fun j p hp => ph_app' (show p < (b_pnarr z n k d kd K).length from hp)) ⟨fun _ => rfl, fun _ _ h => h, fun _ _ _ => trivial, fun _ _ h => NorV.re (h.eq (by rw [Int.pow_zero])) (hB 0 (by omega)), trivial⟩ (fun j hj => by
      skip
      exact ⟨(r_pnarr_1_0, [.from 18, .from 16, .from 0, .from 17]), rfl, ⟨fun _ _ h => h, fun _ _ h => h, fun _ _ _ => trivial, fun _ _ h => NorV.re (h.eq (by rw [Int.pow_succ])) (hB (j + 1) (by omega)), trivial⟩, (lbase (qTest (op := .lss) (fun _ _ h => h) (fun _ _ h => h) (ts_run (decide_eq_true (by omega)) (by simp)))
      (lbase (qIdx (i := j) (sz := 2) (n := n) (F := (fun ι w v => IntV w v (z ι) k)) Try.underlying23 (by kernel_rfl) (fun _ _ h => Rw.arr h) (fun _ _ h => h) (by omega) rfl)
      (lbase (qLoad (sz := 2) (F := fun w v => IntV w v (z j) k) (by kernel_rfl) (by kernel_rfl) (fun _ _ h => h) (fun _ _ _ g h => IntV.kp h g) (fun _ _ h => IntV.is h) rfl)
      (lbase (sMul iI nI rfl (by omega) rfl)
      (lbase (qIdxJ (i := j) (sz := 2) (n := n) (F := (fun ι w v => NorV w v ((upto j (fun i => z i * d ^ i)) ι) K)) Try.underlying23 (by kernel_rfl) (fun _ _ h => ArrO.arr h) (fun _ _ h => h) (by omega) rfl rfl)
      (lbase (qPutR (i := j) (n := n) (F := (fun ι w v => NorV w v ((upto j (fun i => z i * d ^ i)) ι) K)) (F' := (fun ι w v => NorV w v ((upto (j + 1) (fun i => z i * d ^ i)) ι) K)) (G := fun w v => NorV w v ((z j) * (d ^ j)) (k + kp)) (.tmp 20) (.tmp 21) (by kernel_rfl) (fun _ _ h => h) (fun _ _ h => h) (by omega) (fun _ _ h => h) rfl (fun _ _ h => NorV.cells h) (fun _ _ _ _ g h => NorV.kp h g) (fun _ _ _ g h => NorV.kp h g) (fun i w v hi h => by rw [upto_ne hi]; exact h) (fun w v h => NorV.more (h.eq (upto_self j (fun i => z i * d ^ i)).symm) (by omega)) rfl)
      (lbase (sMul nI iI rfl (by omega) rfl)
      (lbase (qAddK (fun _ _ h => h) (by omega) rfl (by omega) (by omega))
      lnil))))))))⟩)
      (lbase (qTest (op := .lss) (fun _ _ h => h) (fun _ _ h => h) (ts_run (decide_eq_false (by omega)) (by simp)))
      lnil)
      (fun q hq w v h => by
        simp only [d_pnarr_1, List.mem_cons, List.not_mem_nil, or_false] at hq
        rcases hq with rfl
        · exact (fun h => h) h)) lnil)))))
    (ins_ok [.fact 0 (.one (.s)), .fact 1 (.agg [.b, .s])] ⟨fun _ _ h => Rw.is (sz := 2) (F := (fun ι w v => IntV w v (z ι) k)) (n := n) h, fun _ _ h => IntV.is h, trivial⟩) (fun _ _ _ h => h)

def b_pshift (S : Nat → Nat → Int) (n K : Nat) (u : Int) (ku : Nat) (s0 : Option Addr) (n0 m0 : Nat) (w0 : World) : List (World → Value → Prop) := [fun _ u => u = .slice s0 n0 m0, Pin w0 (.slice s0 n0 m0), fun w v => IntV w v u ku, fun w v => ArrO 2 36 (fun ι w v => IntV w v ((S 0) ι) K) n w v, LenS n, fun _ v => v = .int .i64 ((n : Nat) : Int), fun w v => ArrO 2 36 (fun ι w v => IntV w v ((S n) ι) K) n w v, fun _ u => u = .slice s0 n0 m0, Pin w0 (.slice s0 n0 m0)]
def l_pshift_2 (S : Nat → Nat → Int) (n K : Nat) (u : Int) (ku : Nat) (s0 : Option Addr) (n0 m0 : Nat) (w0 : World) (j i : Nat) : List (World → Value → Prop) := [fun _ v => v = .int .i64 (((n : Nat) : Int) - 2 - ((i : Nat) : Int)), fun w v => ArrO 2 36 (fun ι w v => IntV w v ((mid S n j i) ι) K) n w v, fun _ _ => True, fun _ u => u = .slice s0 n0 m0, Pin w0 (.slice s0 n0 m0), At 2, fun w v => Ptr 2 (fun w v => IntV w v ((mid S n j i) (n - 2 - i)) K) w v, fun w v => IntV w v ((mid S n j i) (n - 2 - i)) K, fun _ v => v = .int .i64 ((((n : Nat) : Int) - 2 - ((i : Nat) : Int)) + 1), At 2, fun w v => Ptr 2 (fun w v => IntV w v ((mid S n j i) (n - 1 - i)) K) w v, fun w v => IntV w v ((mid S n j i) (n - 1 - i)) K, fun w v => NorV w v (((mid S n j i) (n - 1 - i)) * u) (K + ku), fun w v => NorV w v (((mid S n j i) (n - 2 - i)) + (((mid S n j i) (n - 1 - i)) * u)) (K + (K + ku) + 1), At 2, fun w v => Ptr 2 (fun w v => IntV w v ((mid S n j i) (n - 2 - i)) K) w v, fun w v => ArrO 2 36 (fun ι w v => IntV w v ((mid S n j (i + 1)) ι) K) n w v, fun _ v => v = .int .i64 ((((n : Nat) : Int) - 2 - ((i : Nat) : Int)) - 1)]
def d_pshift_2 : LoopD := ⟨[1, 3, 4, 6, 7, 8, 9, 10, 11, 12, 13], [(.slot 5, .i), (.slot 0, .s)], [(.one 0, 21), (.one 1, .at [1] 22), (.one 1, .lo 1), (.one 1, 24), (.one 1, 25)], [.from 16, .from 10, .from 0, .from 12, .from 13], 21, [(22, 17), (24, 18), (25, 19)]⟩
def r_pshift_2_0 : List Step := [.base ⟨0, [.fact 21, .fact 9], [⟨.one (.lit (.cb true)), []⟩], .quiet (mBin .geq)⟩,
      .base ⟨0, [.fact 22, .fact 21], [⟨.one (.p), [(0, 0, 27)]⟩], .joint [1] 26 (mIdx 23)⟩,
      .base ⟨0, [.fact 27], [⟨.agg [.b, .s], [(0, 0, 28)]⟩], .quietJ [1] (mLoad 36)⟩,
      .base ⟨0, [.fact 21, .lit (.ci .i64 1)], [⟨.one (.i), [(0, 0, 29)]⟩], .quiet (mBin .add)⟩,
      .base ⟨0, [.fact 22, .fact 29], [⟨.one (.p), [(0, 0, 31)]⟩], .joint [1] 30 (mIdx 23)⟩,
      .base ⟨0, [.fact 31], [⟨.agg [.b, .s], [(0, 0, 32)]⟩], .quietJ [1] (mLoad 36)⟩,
      .base ⟨52, [.fact 32, .fact 2], [⟨.agg [.b, .s], [(0, 0, 33)]⟩], .callJ [1] false⟩,
      .base ⟨41, [.fact 28, .fact 33], [⟨.agg [.b, .s], [(0, 0, 34)]⟩], .callJ [1] false⟩,
      .base ⟨0, [.fact 22, .fact 21], [⟨.one (.p), [(0, 0, 36)]⟩], .joint [1] 35 (mIdx 23)⟩,
      .base ⟨0, [.fact 22, .fact 21, .any, .fact 34], [⟨.one .s, [(0, 0, 37)]⟩], .put [] 1 0 35 (mPut 36 (.tmp 19) (.tmp 20))⟩,
      .base ⟨0, [.fact 21, .lit (.ci .i64 1)], [⟨.one (.i), [(0, 0, 38)]⟩], .quiet (mBin .sub)⟩]
def o_pshift_2 : List Step := [.base ⟨0, [.fact 21, .fact 9], [⟨.one (.lit (.cb false)), []⟩], .quiet (mBin .geq)⟩]
def l_pshift_1 (S : Nat → Nat → Int) (n K : Nat) (_u : Int) (s0 : Option Addr) (n0 m0 : Nat) (w0 : World) (j : Nat) : List (World → Value → Prop) := [fun _ v => v = .int .i64 ((j : Nat) : Int), fun w v => ArrO 2 36 (fun ι w v => IntV w v ((S j) ι) K) n w v, fun _ _ => True, fun _ u => u = .slice s0 n0 m0, Pin w0 (.slice s0 n0 m0), LenS n, fun _ v => v = .int .i64 (((n : Nat) : Int) - 1), fun _ v => v = .int .i64 (((n : Nat) : Int) - 2), fun w v => ArrO 2 36 (fun ι w v => IntV w v ((mid S n j (n - 1 - j)) ι) K) n w v, fun _ u => u = .slice s0 n0 m0, Pin w0 (.slice s0 n0 m0), fun _ v => v = .int .i64 (((j + 1) : Nat) : Int)]
def d_pshift_1 : LoopD := ⟨[1, 3, 6, 7], [(.slot 8, .i), (.slot 0, .s)], [(.one 0, 9), (.one 1, .at [1] 10), (.one 1, .lo 1), (.one 1, 12), (.one 1, 13)], [.closed (.one (.ci .i64 0)), .from 3, .from 0, .from 0, .from 1], 9, [(10, 6), (12, 7), (13, 8)]⟩
def r_pshift_1_0 : List Step := [.base ⟨0, [.fact 9, .fact 5], [⟨.one (.lit (.cb true)), []⟩], .quiet (mBin .lss)⟩,
      .freed (.one (.s 5 1)) 10 14,
      .base ⟨54, [.fact 14], [⟨.one (.i), [(0, 0, 15)]⟩], false⟩,
      .base ⟨0, [.fact 15, .lit (.ci .i64 1)], [⟨.one (.i), [(0, 0, 16)]⟩], .quiet (mBin .sub)⟩,
      .loop d_pshift_2 [(r_pshift_2_0, [.from 38, .from 37, .from 0, .from 24, .from 25])] o_pshift_2,
      .base ⟨0, [.fact 9, .lit (.ci .i64 1)], [⟨.one (.i), [(0, 0, 20)]⟩], .quiet (mBin .add)⟩]
def o_pshift_1 : List Step := [.base ⟨0, [.fact 9, .fact 5], [⟨.one (.lit (.cb false)), []⟩], .quiet (mBin .lss)⟩]
def ss_pshift : List Step := [.freed (.one (.s 0 0)) 3 4,
      .base ⟨0, [.fact 4], [⟨.one (.i), [(0, 0, 5)]⟩], .quiet (mLen 23)⟩,
      .loop d_pshift_1 [(r_pshift_1_0, [.from 20, .from 17, .from 0, .from 18, .from 19])] o_pshift_1]
def ins_pshift : List Out := [⟨.one (.s), [(0, 0, 0), (0, 0, 1)]⟩, ⟨.agg [.b, .s], [(0, 0, 2)]⟩]
set_option maxRecDepth 100000 in
theorem pshift {S : Nat → Nat → Int} {n K : Nat} {u : Int} {ku : Nat} {s0 : Option Addr} {n0 m0 : Nat} {w0 : World} (hn : n ≤ 1000000) (hk : K ≤ 400000) (hku : ku ≤ 100000) (hS : IsShift S u n) (hM : ∀ j a, j ≤ n → a < n → Bd (S j a).natAbs K) : MutOk (ph (b_pshift S n K u ku s0 n0 m0 w0)) Try.prog 69 ins_pshift 3 [6, 8] (.slice s0 n0 m0) w0 := by
  skip
  exact fn_okM ins_pshift 3 [6, 8] 7 ss_pshift rfl Try.func69 (by kernel_rfl)
    (lfreed (freeLen (e := 36) (sz := 2) (n := n) (F := (fun ι w v => IntV w v ((S 0) ι) K)) (fun _ _ h => h) rfl)
      (lbase (qLenS' (n := n) Try.underlying23 (fun _ _ h => h) rfl)
      (lloop (counted n (fun j => ph (b_pshift S n K u ku s0 n0 m0 w0 ++ l_pshift_1 S n K u s0 n0 m0 w0 j)) (fun _ => 0) (fun j p hp => ph_app' (show p < (b_pshift S n K u ku s0 n0 m0 w0).length from hp)) ⟨fun _ => rfl, fun _ _ h => h, fun _ _ _ => trivial, fun _ _ h => h, fun _ _ h => h, trivial⟩ (fun j hj => by
      skip
      exact ⟨(r_pshift_1_0, [.from 20, .from 17, .from 0, .from 18, .from 19]), rfl, ⟨fun _ _ h => h, fun _ _ h => ArrO.to (sz := 2) (e := 36) (n := n) (F := (fun ι w v => IntV w v ((mid S n j (n - 1 - j)) ι) K)) (G := (fun ι w v => IntV w v ((S (j + 1)) ι) K)) h fun a w v ha h => by rw [← mid_full hS hj ha]; exact h, fun _ _ _ => trivial, fun _ _ h => h, fun _ _ h => h, trivial⟩, (lbase (qTest (op := .lss) (fun _ _ h => h) (fun _ _ h => h) (ts_run (decide_eq_true (by omega)) (by simp)))
      (lfreed (freeLen (e := 36) (sz := 2) (n := n) (F := (fun ι w v => IntV w v ((S j) ι) K)) (fun _ _ h => h) rfl)
      (lbase (sDeg (n := n) (fun _ _ h => h) rfl (by omega) (rfl))
      (lbase (qSubK (fun _ _ h => h) (by omega) rfl (by omega) (by omega))
      (lloop (counted (n - 1 - j) (fun i => ph ((b_pshift S n K u ku s0 n0 m0 w0 ++ l_pshift_1 S n K u s0 n0 m0 w0 j) ++ l_pshift_2 S n K u ku s0 n0 m0 w0 j i)) (fun _ => 0) (fun i p hp => ph_app' (show p < (b_pshift S n K u ku s0 n0 m0 w0 ++ l_pshift_1 S n K u s0 n0 m0 w0 j).length from hp)) ⟨fun _ _ h => h.trans (congrArg (Value.int .i64) (by omega)), fun _ _ h => ArrO.to (sz := 2) (e := 36) (n := n) (F := (fun ι w v => IntV w v ((S j) ι) K)) (G := (fun ι w v => IntV w v ((mid S n j 0) ι) K)) h fun a w v ha h => by rw [mid_zero hS hj ha]; exact h, fun _ _ _ => trivial, fun _ _ h => h, fun _ _ h => h, trivial⟩ (fun i hi => by
      have hi' := hi
      exact ⟨(r_pshift_2_0, [.from 38, .from 37, .from 0, .from 24, .from 25]), rfl, ⟨fun _ _ h => h.trans (congrArg (Value.int .i64) (by omega)), fun _ _ h => h, fun _ _ _ => trivial, fun _ _ h => h, fun _ _ h => h, trivial⟩, (lbase (qTest (op := .geq) (fun _ _ h => h) (fun _ _ h => h) (ts_run (decide_eq_true (by omega)) (by simp)))
      (lbase (qIdxJ (i := (n - 2 - i)) (sz := 2) (n := n) (F := (fun ι w v => IntV w v ((mid S n j i) ι) K)) Try.underlying23 (by kernel_rfl) (fun _ _ h => ArrO.arr h) (fun _ _ h => h.trans (congrArg (Value.int .i64) (by omega))) (by omega) rfl rfl)
      (lbase (qLoad (sz := 2) (F := fun w v => IntV w v ((mid S n j i) (n - 2 - i)) K) (by kernel_rfl) (by kernel_rfl) (fun _ _ h => h) (fun _ _ _ g h => IntV.kp h g) (fun _ _ h => IntV.is h) rfl)
      (lbase (qAddK (fun _ _ h => h) (rfl) rfl (by omega) (by omega))
      (lbase (qIdxJ (i := (n - 1 - i)) (sz := 2) (n := n) (F := (fun ι w v => IntV w v ((mid S n j i) ι) K)) Try.underlying23 (by kernel_rfl) (fun _ _ h => ArrO.arr h) (fun _ _ h => h.trans (congrArg (Value.int .i64) (by omega))) (by omega) rfl rfl)
      (lbase (qLoad (sz := 2) (F := fun w v => IntV w v ((mid S n j i) (n - 1 - i)) K) (by kernel_rfl) (by kernel_rfl) (fun _ _ h => h) (fun _ _ _ g h => IntV.kp h g) (fun _ _ h => IntV.is h) rfl)
      (lbase (onJ [1] (sMul iI iI rfl (by omega) rfl))
      (lbase (onJ [1] (sAdd iI nI rfl (by omega) rfl))
      (lbase (qIdxJ (i := (n - 2 - i)) (sz := 2) (n := n) (F := (fun ι w v => IntV w v ((mid S n j i) ι) K)) Try.underlying23 (by kernel_rfl) (fun _ _ h => ArrO.arr h) (fun _ _ h => h.trans (congrArg (Value.int .i64) (by omega))) (by omega) rfl rfl)
      (lbase (qPutR (i := (n - 2 - i)) (n := n) (F := (fun ι w v => IntV w v ((mid S n j i) ι) K)) (F' := (fun ι w v => IntV w v ((mid S n j (i + 1)) ι) K)) (G := fun w v => NorV w v (((mid S n j i) (n - 2 - i)) + (((mid S n j i) (n - 1 - i)) * u)) (K + (K + ku) + 1)) (.tmp 19) (.tmp 20) (by kernel_rfl) (fun _ _ h => h) (fun _ _ h => h.trans (congrArg (Value.int .i64) (by omega))) (by omega) (fun _ _ h => h) rfl (fun _ _ h => NorV.cells h) (fun _ _ _ _ g h => IntV.kp h g) (fun _ _ _ g h => NorV.kp h g) (fun a w v ha h => by rw [mid_ne (S := S) (by omega) ha]; exact h) (fun w v h => (NorV.re (h.eq (mid_at hS hj (by omega))) (mid_bd hM hj (by omega))).i) rfl)
      (lbase (qSubK (fun _ _ h => h) (rfl) rfl (by omega) (by omega))
      lnil)))))))))))⟩)
      (lbase (qTest (op := .geq) (fun _ _ h => h) (fun _ _ h => h) (ts_run (decide_eq_false (by omega)) (by simp)))
      lnil)
      (fun q hq w v h => by
        simp only [d_pshift_2, List.mem_cons, List.not_mem_nil, or_false] at hq
        rcases hq with rfl | rfl | rfl
        · exact (fun h => h) h
        · exact (fun h => h) h
        · exact (fun h => h) h)) (lbase (qAddK (fun _ _ h => h) (by omega) rfl (by omega) (by omega))
      lnil))))))⟩)
      (lbase (qTest (op := .lss) (fun _ _ h => h) (fun _ _ h => h) (ts_run (decide_eq_false (by omega)) (by simp)))
      lnil)
      (fun q hq w v h => by
        simp only [d_pshift_1, List.mem_cons, List.not_mem_nil, or_false] at hq
        rcases hq with rfl | rfl | rfl
        · exact (fun h => h) h
        · exact (fun h => h) h
        · exact (fun h => h) h)) lnil)))

section
variable {Φ : Nat → World → Value → Prop} {p q x n k : Nat} {z : Nat → Int} {t : Int}
end
end Go.Proofs.Yteblgmjpociffaa.Sym
