/- Package limb: divLong: the long division. -/
import Derived.Test.YtmmmpdpgkjcohaaLimbM
namespace Go.Proofs.Ytmmmpdpgkjcohaa
open Go.RowKit

theorem guess_any {pb po capp bb bo capb n : Nat} {ps bs : List Nat} {w : World} (hn : 2 ≤ n) (hn2 : n ≤ 8796093022208)
    (hp : ps.length = n + 1) (hb : bs.length = n) (ap : All 4294967296 ps) (ab : All 4294967296 bs)
    (cp : ∀ j, j < n + 1 → w.cell? ⟨pb, po + j, none⟩ = some (.int .u32 (nth ps j))) (cb : ∀ j, j < n → w.cell? ⟨bb, bo + j, none⟩ = some (.int .u32 (nth bs j)))
    (htop : 2147483648 ≤ nth bs (n - 1)) (hlt : val 4294967296 ps < val 4294967296 bs * 4294967296) :
    Calls Try.prog 96 #[.slice (some ⟨pb, po, none⟩) (n + 1) capp, .slice (some ⟨bb, bo, none⟩) n capb] w (Guessed w (val 4294967296 ps) (val 4294967296 bs)) := by
  obtain ⟨m, rfl⟩ : ∃ m, n = m + 2 := ⟨n - 2, by omega⟩
  have nb := nth_lt (by omega) ab
  have np := nth_lt (by omega) ap
  have l1 := val_lt (ab.take m)
  have l2 := val_lt (ap.take m)
  rw [List.length_take, Nat.min_eq_left (by omega)] at l1 l2
  refine guess_cells pb po capp bb bo capb m (nth bs (m + 1)) (nth bs m) (nth ps (m + 2)) (nth ps (m + 1)) (nth ps m) (val 4294967296 (bs.take m)) (val 4294967296 (ps.take m)) (4294967296 ^ m) _ _ w (by omega)
    (cp (m + 2) (by omega)) (cp (m + 1) (by omega)) (cp m (by omega)) (cb (m + 1) (by omega)) (cb m (by omega)) ⟨l1, l2, ?_, nb _, nb _, np _, np _, np _, ?_, ?_, ?_, hlt⟩
  · rw [show m + 2 - 1 = m + 1 by omega] at htop; omega
  · rw [show m + 2 - 1 = m + 1 by omega] at htop; omega
  · rw [val_take_drop 4294967296 bs (k := m) (by omega), val_drop_step _ _ (by omega), val_drop_step _ _ (by omega), List.drop_of_length_le (by omega)]
    simp only [val, Nat.mul_zero, Nat.add_zero]
    rw [Nat.mul_comm (4294967296 ^ m), Nat.add_comm]
    refine congrArg (· + _) (congrArg (· * _) ?_)
    omega
  · rw [val_take_drop 4294967296 ps (k := m) (by omega), val_drop_step _ _ (by omega), val_drop_step _ _ (by omega), val_drop_step _ _ (by omega), List.drop_of_length_le (by omega)]
    simp only [val, Nat.mul_zero, Nat.add_zero]
    rw [show m + 1 + 1 = m + 2 from rfl]
    rw [Nat.mul_comm (4294967296 ^ m), Nat.add_comm]
    refine congrArg (· + _) (congrArg (· * _) ?_)
    omega

/-- A block of limbs, whole. -/
def Blk (w : World) (g : Nat) (L : List Nat) : Prop := RowF w 65 g L.length (fun j => .int .u32 (nth L j))
theorem Blk.of {w : World} {g n : Nat} {L : List Nat} {c : Nat → Value} (h : RowF w 65 g n c) (hn : L.length = n) (hc : ∀ j, j < n → c j = .int .u32 (nth L j)) : Blk w g L := by
  subst hn
  exact h.congr hc
theorem Blk.cell {w : World} {g : Nat} {L : List Nat} (h : Blk w g L) {j : Nat} (hj : j < L.length) : w.cell? ⟨g, j, none⟩ = some (.int .u32 (nth L j)) := RowF.cell h hj
theorem Blk.grown {w w' : World} {g : Nat} {L : List Nat} {row : Option Nat} (h : Blk w g L) (hg : w.grownBy w' row) (hne : some g ≠ row) : Blk w' g L := RowF.grown h hg hne
theorem Blk.set {w : World} {g : Nat} {L : List Nat} (h : Blk w g L) {i x : Nat} (hi : i < L.length) {v : Value} (hv : v = .int .u32 x) : Blk (w.setCell ⟨g, i, none⟩ v) g (L.set i x) := by
  subst hv
  refine Blk.of (RowF.set h i _) (by simp) fun j hj => ?_
  by_cases e : j = i
  · subst e; rw [upd_at, nth_set_at _ hi]
  · rw [upd_ne _ _ e, nth_set_ne _ _ e]
theorem Blk.over {w : World} {g k n : Nat} {R Z : List Nat} {N : Nat} (hN : R.length = N) (h : RowF w 65 g N (lay (fun j => .int .u32 (nth R j)) k n .u32 Z)) (hZ : Z.length = n) (hk : k + n ≤ N) : Blk w g (Go.Proofs.Ytmmmpdpgkjcohaa.over R Z k) := by
  refine Blk.of h (by rw [over_len (by omega), hN]) fun j hj => ?_
  by_cases h1 : k ≤ j ∧ j < k + n
  · obtain ⟨i, rfl⟩ : ∃ i, j = k + i := ⟨j - k, by omega⟩
    rw [lay_in _ _ _ (by omega), over_in (by omega) (by omega)]
  · rw [lay_out _ _ _ (by omega), over_out (by omega) (by omega)]
theorem Blk.sl {w : World} {g : Nat} {L : List Nat} (h : Blk w g L) (off n cap : Nat) (h1 : off + n ≤ L.length) (h2 : n ≤ cap) (h3 : cap ≤ 9223372036854775807) : Sl w .u32 (.slice (some ⟨g, off, none⟩) n cap) ((L.drop off).take n) := by
  have hl : ((L.drop off).take n).length = n := by rw [List.length_take, List.length_drop]; omega
  refine ⟨_, cap, by rw [hl], by omega, h3, .inr ⟨g, off, rfl, RowF.lt h, fun j hj => ?_⟩⟩
  rw [hl] at hj
  rw [h.cell (by omega), nth_take _ hj, nth_drop]
theorem Blk.lt {w : World} {g : Nat} {L : List Nat} (h : Blk w g L) : g < w.heap.size := RowF.lt h

theorem mk_eq {i : TypeInfo} (hi : Try.prog.info? 65 = some i) (hz0 : i.zero = some (.int .u32 0)) (hz1 : i.size = 1) (hz2 : i.bytes = 4) (n : Nat) (hn : n ≤ 17592186044416) (L : Int) (hL : L = (n : Int)) (w : World) :
    (Instr.makeSlice 22 (.int .i64 L) (.int .i64 L)).run Try.prog w = .ok (.slice (some ⟨w.heap.size, 0, none⟩) n n) (w.alloc (.cells (madeCells #[.int .u32 0] n) 65)) := by
  subst hL
  have h := run_make (P := Try.prog) w 22 65 i (.int .u32 0) Try.underlying22 hi hz0 .i64 .i64 n n (by omega) (by omega) (by rw [hz2]; omega) (by omega)
  simp only [Int.toNat_natCast, hz1, Nat.mul_one] at h
  exact h
theorem made_row (w : World) (n : Nat) : RowF (w.alloc (.cells (madeCells #[.int .u32 0] n) 65)) 65 w.heap.size n (fun _ => .int .u32 0) := by
  have h := RowF.made w (madeCells #[.int .u32 0] n) 65 (fun _ => .int .u32 0) (fun j hj => by
    rw [size_madeCells] at hj
    simp [madeCells, hj, Nat.mod_one])
  rwa [size_madeCells] at h
/-- Two rows, made in whatever order. -/
theorem two_rows (w : World) (n m : Nat) : ∃ w2, ((w.alloc (.cells (madeCells #[.int .u32 0] n) 65)).alloc (.cells (madeCells #[.int .u32 0] m) 65)).drew = w2 ∧
    RowF w2 65 w.heap.size n (fun _ => .int .u32 0) ∧ RowF w2 65 (w.heap.size + 1) m (fun _ => .int .u32 0) ∧ w.grownBy w2 none ∧ w2.heap.size = w.heap.size + 2 := by
  refine ⟨_, rfl, ?_, ?_, ?_, by simp⟩
  · exact ((made_row w n).alloc _).drew
  · have := made_row (w.alloc (.cells (madeCells #[.int .u32 0] n) 65)) m
    rw [World.size_alloc] at this
    exact this.drew
  · exact grown_trans (grown_trans (grown_alloc _ _ _) (grown_alloc _ _ _)) (grown_drew _ _)

/-- Between two digits of the quotient. -/
structure DivInv (w wr : World) (gr gb gq la n k : Nat) (A D : Nat) (by_ : List Nat) (R Q : List Nat) : Prop where
  r : Blk wr gr R
  b : Blk wr gb by_
  q : Blk wr gq Q
  rl : R.length = la + 1
  ql : Q.length = la - n + 1
  ar : All 4294967296 R
  aq : All 4294967296 Q
  lt : val 4294967296 R < D * 4294967296 ^ k
  eq : A = D * (4294967296 ^ k * val 4294967296 (Q.drop k)) + val 4294967296 R
  grown : w.grownBy wr none

theorem DivInv.next {w wr w' : World} {gr gb gq la n k A D : Nat} {by_ R Q Z : List Nat} (h : DivInv w wr gr gb gq la n (k + 1) A D by_ R Q) (hD0 : 0 < D) (hD : D < 4294967296 ^ n) (hk : k + n ≤ la)
    (zl : Z.length = n + 1) (az : All 4294967296 Z) (zv : val 4294967296 Z = val 4294967296 ((R.drop k).take (n + 1)) % D)
    (hr : Blk w' gr (over R Z k)) (hb : Blk w' gb by_) (hq : Blk w' gq (Q.set k (val 4294967296 ((R.drop k).take (n + 1)) / D))) (hg : w.grownBy w' none) :
    DivInv w w' gr gb gq la n k A D by_ (over R Z k) (Q.set k (val 4294967296 ((R.drop k).take (n + 1)) / D)) := by
  have hRl := h.rl
  have hQl := h.ql
  obtain ⟨e1, e2, e3⟩ := piece_val (by omega) (by omega) hD h.lt
  generalize val 4294967296 ((R.drop k).take (n + 1)) = P at *
  have hov := over_val (b := 4294967296) (R := R) (Z := Z) (k := k) (by omega) (by rw [zl, ← Nat.add_assoc]; exact e3)
  have hm := Nat.mod_lt P hD0
  have hdm := Nat.div_add_mod P D
  have hql : P / D < 4294967296 := by rw [Nat.div_lt_iff_lt_mul hD0, Nat.mul_comm]; exact e2
  have lt := val_lt (h.ar.take k)
  rw [List.length_take, Nat.min_eq_left (by omega)] at lt
  refine ⟨hr, hb, hq, by rw [over_len (by omega)]; exact hRl, by rw [List.length_set]; exact hQl, over_all h.ar az k, h.aq.set hql k, ?_, ?_, hg⟩
  · rw [hov, zv]
    have : 4294967296 ^ k * (P % D + 1) ≤ 4294967296 ^ k * D := Nat.mul_le_mul_left _ hm
    rw [Nat.mul_add, Nat.mul_comm _ D] at this
    omega
  · rw [hov, zv, set_drop_val _ (by omega)]
    have e4 := h.eq
    rw [e1] at e4
    generalize val 4294967296 (R.take k) = lo at *
    generalize val 4294967296 (Q.drop (k + 1)) = V at *
    rw [Nat.pow_succ] at e4
    generalize P % D = r at *
    generalize P / D = q at *
    generalize (4294967296 : Nat) ^ k = E at *
    subst hdm
    rw [e4]
    simp only [Nat.mul_add, Nat.mul_assoc, Nat.mul_left_comm]
    grind

theorem over_over {R Z Z2 : List Nat} {k : Nat} (h : k + Z.length ≤ R.length) (hl : Z2.length = Z.length) : over (over R Z k) Z2 k = over R Z2 k := by
  refine ext_nth ?_ fun j hj => ?_
  · rw [over_len (by rw [over_len h]; omega), over_len h, over_len (by omega)]
  · by_cases h1 : k ≤ j ∧ j < k + Z2.length
    · obtain ⟨i, rfl⟩ : ∃ i, j = k + i := ⟨j - k, by omega⟩
      rw [over_in (by rw [over_len h]; omega) (by omega), over_in (by omega) (by omega)]
    · rw [over_out (by rw [over_len h]; omega) (by omega), over_out h (by omega), over_out (by omega) (by omega)]
theorem Blk.own {w : World} {g B : Nat} {L : List Nat} {n : Nat} (h : Blk w g L) (hB : B ≤ g) (hn : L.length = n) (hc : n ≤ 9223372036854775807) : Own w 65 .u32 B (.slice (some ⟨g, 0, none⟩) n n) L := by
  subst hn
  exact .inr ⟨g, _, _, rfl, hB, h, Nat.le_refl _, hc, fun j _ => rfl⟩
theorem take_small {b n : Nat} {R : List Nat} (h : val b R < b ^ n) (hn : n ≤ R.length) : val b (R.take n) = val b R := by
  have e := val_take_drop b R hn
  rcases Nat.eq_zero_or_pos (val b (R.drop n)) with z | z
  · rw [z, Nat.mul_zero, Nat.add_zero] at e; exact e.symm
  · have := Nat.mul_le_mul_left (b ^ n) z; omega
theorem DivInv.end_ {w wr : World} {gr gb gq la n s A B : Nat} {by_ R Q : List Nat} (h : DivInv w wr gr gb gq la n 0 (A * 2 ^ s) (B * 2 ^ s) by_ R Q) (hD : B * 2 ^ s < 4294967296 ^ n) (hn : n ≤ la) :
    A / B = val 4294967296 Q ∧ A % B = val 4294967296 (R.take n) / 2 ^ s := by
  have h1 := h.lt
  have h2 := h.eq
  rw [Nat.pow_zero, Nat.mul_one] at h1
  rw [Nat.pow_zero, Nat.one_mul, List.drop_zero] at h2
  rw [take_small (by omega) (by rw [h.rl]; omega)]
  exact div_shift (Nat.pow_pos (by omega)) h2 h1

end Go.Proofs.Ytmmmpdpgkjcohaa
