/- The guess of a quotient's digit off the topmost digits: it is the digit, or one more. Numbers alone. Package limb: guess: a digit of the quotient, or one more. Package limb: mulSub, addBack. Package limb: divLong: the long division. Package limb: divLong: the walk. Package limb: DivMod, whatever it is given. What the laws of layer 1 share: bounds on numbers by limbs; Within. Package orrerykeep: Copy, Lend, Intact, Spoil. -/
import GoSem.Claim
import Derived.Test.YteblgmjpociffaaLimbA
import Derived.Deep.DeepCutAuto
import Derived.Test.YteblgmjpociffaaBase
namespace Go.Proofs.Yteblgmjpociffaa

theorem guess_lo {B E b1 b2 bl p0 p1 p2 pl q rest : Nat} (hpl : pl < E) (inv : q * b1 + rest = p0 * B + p1) (t : rest * B + p2 < q * b2) :
    ((p0 * B + p1) * B + p2) * E + pl < q * ((b1 * B + b2) * E + bl) := by
  have h1 : (q * b1) * (B * E) + rest * (B * E) = (p0 * B + p1) * (B * E) := by rw [← Nat.add_mul, inv]
  have h2 : (rest * B + p2 + 1) * E ≤ (q * b2) * E := Nat.mul_le_mul_right E t
  grind
theorem guess_hi1 {B E b1 b2 bl p0 p1 p2 pl q rest : Nat} (hbl : bl < E) (hb1 : 0 < b1) (hq : q < B) (inv : q * b1 + rest = p0 * B + p1) (t : q * b2 ≤ rest * B + p2) :
    q * ((b1 * B + b2) * E + bl) ≤ ((p0 * B + p1) * B + p2) * E + pl + ((b1 * B + b2) * E + bl) := by
  have h1 : (q * b1) * (B * E) + rest * (B * E) = (p0 * B + p1) * (B * E) := by rw [← Nat.add_mul, inv]
  have h2 : (q * b2) * E ≤ (rest * B + p2) * E := Nat.mul_le_mul_right E t
  have h3 : q * bl ≤ B * E := Nat.mul_le_mul (Nat.le_of_lt hq) (Nat.le_of_lt hbl)
  have h4 : 1 * (B * E) ≤ b1 * (B * E) := Nat.mul_le_mul_right _ hb1
  clear hbl hb1 hq inv t
  grind
theorem guess_hi2 {B E b1 b2 bl p0 p1 p2 pl q rest : Nat} (hbl : bl < E) (hb2 : b2 < B) (hq : q ≤ B) (hr : B ≤ rest) (inv : q * b1 + rest = p0 * B + p1) :
    q * ((b1 * B + b2) * E + bl) ≤ ((p0 * B + p1) * B + p2) * E + pl := by
  have h1 : (q * b1) * (B * E) + rest * (B * E) = (p0 * B + p1) * (B * E) := by rw [← Nat.add_mul, inv]
  have h2 : B * (B * E) ≤ rest * (B * E) := Nat.mul_le_mul_right _ hr
  have h3 : b2 * E + bl ≤ B * E := by
    have := Nat.mul_le_mul_right E (show b2 + 1 ≤ B from hb2)
    rw [Nat.add_mul] at this; omega
  have h4 : q * (b2 * E + bl) ≤ B * (B * E) := Nat.mul_le_mul hq h3
  clear hbl hb2 hq hr inv h3
  grind
theorem guess_start {B E b1 b2 bl p0 p1 p2 pl Q : Nat} (hpl : pl < E) (hp2 : p2 < B) (h : Q * ((b1 * B + b2) * E + bl) ≤ ((p0 * B + p1) * B + p2) * E + pl) (hb1 : 0 < b1) :
    Q ≤ (p0 * B + p1) / b1 := by
  rw [Nat.le_div_iff_mul_le hb1]
  have h1 : p2 * E + pl < B * E := by
    have := Nat.mul_le_mul_right E (show p2 + 1 ≤ B from hp2)
    rw [Nat.add_mul] at this; omega
  have h2 : (Q * b1) * (B * E) < (p0 * B + p1 + 1) * (B * E) := by
    clear hpl hp2 hb1
    grind
  have h3 := Nat.lt_of_mul_lt_mul_right h2
  omega
theorem guess_top {B E b1 b2 bl p0 p1 p2 pl : Nat} (hbl : bl < E) (hb2 : b2 < B) (h : ((p0 * B + p1) * B + p2) * E + pl < ((b1 * B + b2) * E + bl) * B) : p0 ≤ b1 := by
  have h3 : b2 * E + bl < B * E := by
    have := Nat.mul_le_mul_right E (show b2 + 1 ≤ B from hb2)
    rw [Nat.add_mul] at this; omega
  have h5 : (b2 * E + bl) * B ≤ (B * E) * B := Nat.mul_le_mul_right B (Nat.le_of_lt h3)
  have h4 : p0 * (B * (B * E)) < (b1 + 1) * (B * (B * E)) := by
    clear hbl hb2 h3
    grind
  have := Nat.lt_of_mul_lt_mul_right h4
  omega
theorem guess_first {B b1 p0 p1 : Nat} (h0 : p0 ≤ b1) (h1 : p1 < B) (h2 : B ≤ 2 * b1) (hb : 0 < b1) : (p0 * B + p1) / b1 ≤ B + 1 := by
  have h3 : p0 * B ≤ b1 * B := Nat.mul_le_mul_right B h0
  have h4 : (p0 * B + p1) / b1 < B + 2 := by
    rw [Nat.div_lt_iff_lt_mul hb, Nat.add_mul, Nat.mul_comm B b1]
    omega
  omega

/-- A guessed digit that was too great is made less by one; the loop's test says when. -/
structure Tops (B E b1 b2 bl p0 p1 p2 pl P D : Nat) : Prop where
  hbl : bl < E
  hpl : pl < E
  hb1 : 0 < b1
  hb1B : b1 < B
  hb2 : b2 < B
  hp0 : p0 < B
  hp1 : p1 < B
  hp2 : p2 < B
  hbig : B ≤ 2 * b1
  hd : D = (b1 * B + b2) * E + bl
  hp : P = ((p0 * B + p1) * B + p2) * E + pl
  hlt : P < D * B

section
variable {B E b1 b2 bl p0 p1 p2 pl P D q rest : Nat}
theorem Tops.dpos (h : Tops B E b1 b2 bl p0 p1 p2 pl P D) : 0 < D := by
  rcases Nat.eq_zero_or_pos D with h0 | h0
  · have := h.hlt; rw [h0] at this; omega
  · exact h0
theorem Tops.qlt (h : Tops B E b1 b2 bl p0 p1 p2 pl P D) : P / D < B := by
  rw [Nat.div_lt_iff_lt_mul h.dpos, Nat.mul_comm]; exact h.hlt
theorem Tops.start (h : Tops B E b1 b2 bl p0 p1 p2 pl P D) : P / D ≤ (p0 * B + p1) / b1 ∧ (p0 * B + p1) / b1 ≤ B + 1 := by
  constructor
  · refine guess_start h.hpl h.hp2 (b2 := b2) (bl := bl) (E := E) (pl := pl) ?_ h.hb1
    have := Nat.div_mul_le_self P D
    have hd := h.hd
    have hp := h.hp
    rw [← hd, ← hp]
    exact this
  · have hd := h.hd
    have hp := h.hp
    have hl := h.hlt
    rw [hd, hp] at hl
    exact guess_first (guess_top h.hbl h.hb2 hl) h.hp1 h.hbig h.hb1
theorem Tops.less (h : Tops B E b1 b2 bl p0 p1 p2 pl P D) (inv : q * b1 + rest = p0 * B + p1) (t : B ≤ q ∨ rest * B + p2 < q * b2) : P / D + 1 ≤ q := by
  rcases t with t | t
  · have := h.qlt; omega
  · have k := guess_lo (bl := bl) h.hpl inv t
    rw [← h.hd, ← h.hp] at k
    exact (Nat.div_lt_iff_lt_mul h.dpos).2 k
theorem Tops.done (h : Tops B E b1 b2 bl p0 p1 p2 pl P D) (inv : q * b1 + rest = p0 * B + p1) (hq : q < B) (t : q * b2 ≤ rest * B + p2) : q ≤ P / D + 1 := by
  have k := guess_hi1 (p2 := p2) (pl := pl) h.hbl h.hb1 hq inv t
  rw [← h.hd, ← h.hp] at k
  cases q with
  | zero => exact Nat.zero_le _
  | succ q =>
    have : q ≤ P / D := by
      rw [Nat.le_div_iff_mul_le h.dpos]
      rw [Nat.add_mul, Nat.one_mul] at k
      omega
    omega
theorem Tops.grown (h : Tops B E b1 b2 bl p0 p1 p2 pl P D) (inv : q * b1 + rest = p0 * B + p1) (hq : q ≤ B) (hr : B ≤ rest) : q ≤ P / D := by
  have k := guess_hi2 (p2 := p2) (pl := pl) h.hbl h.hb2 hq hr inv
  rw [← h.hd, ← h.hp] at k
  rw [Nat.le_div_iff_mul_le h.dpos]
  exact k
end

end Go.Proofs.Yteblgmjpociffaa

namespace Go.Proofs.Yteblgmjpociffaa
open Go.RowKit

/-- What guess hands back. -/
def Guessed (w : World) (P D : Nat) (en : Ending) (w' : World) : Prop :=
  ∃ q : Nat, en = .returned (.int .u32 q) ∧ P / D ≤ q ∧ q ≤ P / D + 1 ∧ q < 4294967296 ∧ ∃ n, w' = w.drewN n

end Go.Proofs.Yteblgmjpociffaa

namespace Go.Proofs.Yteblgmjpociffaa
open Go.RowKit

/-- What mulSub hands back. -/
def Msub (w : World) (g N off n : Nat) (c : Nat → Value) (ps ys : List Nat) (x : Nat) (en : Ending) (w' : World) : Prop :=
  ∃ (Z : List Nat) (short : Bool), Z.length = n + 1 ∧ All 4294967296 Z ∧ en = .returned (.bool short) ∧ RowF w' 73 g N (lay c off (n + 1) .u32 Z) ∧ w.grownBy w' (some g) ∧ w'.heap.size = w.heap.size ∧
    val 4294967296 Z + x * val 4294967296 ys = val 4294967296 ps + (if short then 4294967296 ^ (n + 1) else 0)

/-- What addBack leaves. -/
def AddedBack (w : World) (g N off n : Nat) (c : Nat → Value) (ps ys : List Nat) (en : Ending) (w' : World) : Prop :=
  ∃ (Z : List Nat) (cc : Nat), Z.length = n + 1 ∧ All 4294967296 Z ∧ en = .returned (.tuple #[]) ∧ RowF w' 73 g N (lay c off (n + 1) .u32 Z) ∧ w.grownBy w' (some g) ∧ w'.heap.size = w.heap.size ∧
    val 4294967296 Z + 4294967296 ^ (n + 1) * cc = val 4294967296 ps + val 4294967296 ys

end Go.Proofs.Yteblgmjpociffaa

namespace Go.Proofs.Yteblgmjpociffaa
open Go.RowKit
/-- A block of limbs, whole. -/
def Blk (w : World) (g : Nat) (L : List Nat) : Prop := RowF w 73 g L.length (fun j => .int .u32 (nth L j))
theorem Blk.of {w : World} {g n : Nat} {L : List Nat} {c : Nat → Value} (h : RowF w 73 g n c) (hn : L.length = n) (hc : ∀ j, j < n → c j = .int .u32 (nth L j)) : Blk w g L := by
  subst hn
  exact h.congr hc
theorem Blk.cell {w : World} {g : Nat} {L : List Nat} (h : Blk w g L) {j : Nat} (hj : j < L.length) : w.cell? ⟨g, j, none⟩ = some (.int .u32 (nth L j)) := RowF.cell h hj
theorem Blk.grown {w w' : World} {g : Nat} {L : List Nat} {row : Option Nat} (h : Blk w g L) (hg : w.grownBy w' row) (hne : some g ≠ row) : Blk w' g L := RowF.grown h hg hne
theorem Blk.set {w : World} {g : Nat} {L : List Nat} (h : Blk w g L) {i x : Nat} (hi : i < L.length) {v : Value} (hv : v = .int .u32 x) : Blk (w.setCell ⟨g, i, none⟩ v) g (L.set i x) := by
  subst hv
  refine Blk.of (RowF.set h i _) (by simp) fun j hj => ?_
  by_cases e : j = i
  · subst e; rw [upd_at, nth_set_at _ hi]
  · rw [upd_ne _ _ e, nth_set_ne _ _ e]
theorem Blk.over {w : World} {g k n : Nat} {R Z : List Nat} {N : Nat} (hN : R.length = N) (h : RowF w 73 g N (lay (fun j => .int .u32 (nth R j)) k n .u32 Z)) (hZ : Z.length = n) (hk : k + n ≤ N) : Blk w g (Go.Proofs.Yteblgmjpociffaa.over R Z k) := by
  refine Blk.of h (by rw [over_len (by omega), hN]) fun j hj => ?_
  by_cases h1 : k ≤ j ∧ j < k + n
  · obtain ⟨i, rfl⟩ : ∃ i, j = k + i := ⟨j - k, by omega⟩
    rw [lay_in _ _ _ (by omega), over_in (by omega) (by omega)]
  · rw [lay_out _ _ _ (by omega), over_out (by omega) (by omega)]
theorem Blk.sl {w : World} {g : Nat} {L : List Nat} (h : Blk w g L) (off n cap : Nat) (h1 : off + n ≤ L.length) (h2 : n ≤ cap) (h3 : cap ≤ 9223372036854775807) : Sl w .u32 (.slice (some ⟨g, off, none⟩) n cap) ((L.drop off).take n) := by
  have hl : ((L.drop off).take n).length = n := by rw [List.length_take, List.length_drop]; omega
  refine ⟨_, cap, by rw [hl], by omega, h3, .inr ⟨g, off, rfl, RowF.lt h, fun j hj => ?_⟩⟩
  rw [hl] at hj
  rw [h.cell (by omega), nth_take _ hj, nth_drop]
theorem Blk.lt {w : World} {g : Nat} {L : List Nat} (h : Blk w g L) : g < w.heap.size := RowF.lt h

theorem mk_eq {i : TypeInfo} (hi : Try.prog.info? 73 = some i) (hz0 : i.zero = some (.int .u32 0)) (hz1 : i.size = 1) (hz2 : i.bytes = 4) (n : Nat) (hn : n ≤ 17592186044416) (L : Int) (hL : L = (n : Int)) (w : World) :
    (Instr.makeSlice 34 (.int .i64 L) (.int .i64 L)).run Try.prog w = .ok (.slice (some ⟨w.heap.size, 0, none⟩) n n) (w.alloc (.cells (madeCells #[.int .u32 0] n) 73)) := by
  subst hL
  have h := run_make (P := Try.prog) w 34 73 i (.int .u32 0) Try.underlying34 hi hz0 .i64 .i64 n n (by omega) (by omega) (by rw [hz2]; omega) (by omega)
  simp only [Int.toNat_natCast, hz1, Nat.mul_one] at h
  exact h
theorem made_row (w : World) (n : Nat) : RowF (w.alloc (.cells (madeCells #[.int .u32 0] n) 73)) 73 w.heap.size n (fun _ => .int .u32 0) := by
  have h := RowF.made w (madeCells #[.int .u32 0] n) 73 (fun _ => .int .u32 0) (fun j hj => by
    rw [size_madeCells] at hj
    simp [madeCells, hj, Nat.mod_one])
  rwa [size_madeCells] at h
/-- Two rows, made in whatever order. -/
theorem two_rows (w : World) (n m : Nat) : ∃ w2, ((w.alloc (.cells (madeCells #[.int .u32 0] n) 73)).alloc (.cells (madeCells #[.int .u32 0] m) 73)).drew = w2 ∧
    RowF w2 73 w.heap.size n (fun _ => .int .u32 0) ∧ RowF w2 73 (w.heap.size + 1) m (fun _ => .int .u32 0) ∧ w.grownBy w2 none ∧ w2.heap.size = w.heap.size + 2 := by
  refine ⟨_, rfl, ?_, ?_, ?_, by simp⟩
  · exact ((made_row w n).alloc _).drew
  · have := made_row (w.alloc (.cells (madeCells #[.int .u32 0] n) 73)) m
    rw [World.size_alloc] at this
    exact this.drew
  · exact grown_trans (grown_trans (grown_alloc _ _ _) (grown_alloc _ _ _)) (grown_drew _ _)

/-- Between two digits of the quotient. -/
structure DivInv (w wr : World) (gr gb gq la n k : Nat) (A D : Nat) (by_ : List Nat) (R Q : List Nat) : Prop where
  r : Blk wr gr R
  b : Blk wr gb by_
  q : Blk wr gq Q
  rl : R.length = la + 1
  ql : Q.length = la - n + 1
  ar : All 4294967296 R
  aq : All 4294967296 Q
  lt : val 4294967296 R < D * 4294967296 ^ k
  eq : A = D * (4294967296 ^ k * val 4294967296 (Q.drop k)) + val 4294967296 R
  grown : w.grownBy wr none

theorem DivInv.next {w wr w' : World} {gr gb gq la n k A D : Nat} {by_ R Q Z : List Nat} (h : DivInv w wr gr gb gq la n (k + 1) A D by_ R Q) (hD0 : 0 < D) (hD : D < 4294967296 ^ n) (hk : k + n ≤ la)
    (zl : Z.length = n + 1) (az : All 4294967296 Z) (zv : val 4294967296 Z = val 4294967296 ((R.drop k).take (n + 1)) % D)
    (hr : Blk w' gr (over R Z k)) (hb : Blk w' gb by_) (hq : Blk w' gq (Q.set k (val 4294967296 ((R.drop k).take (n + 1)) / D))) (hg : w.grownBy w' none) :
    DivInv w w' gr gb gq la n k A D by_ (over R Z k) (Q.set k (val 4294967296 ((R.drop k).take (n + 1)) / D)) := by
  have hRl := h.rl
  have hQl := h.ql
  obtain ⟨e1, e2, e3⟩ := piece_val (by omega) (by omega) hD h.lt
  generalize val 4294967296 ((R.drop k).take (n + 1)) = P at *
  have hov := over_val (b := 4294967296) (R := R) (Z := Z) (k := k) (by omega) (by rw [zl, ← Nat.add_assoc]; exact e3)
  have hm := Nat.mod_lt P hD0
  have hdm := Nat.div_add_mod P D
  have hql : P / D < 4294967296 := by rw [Nat.div_lt_iff_lt_mul hD0, Nat.mul_comm]; exact e2
  have lt := val_lt (h.ar.take k)
  rw [List.length_take, Nat.min_eq_left (by omega)] at lt
  refine ⟨hr, hb, hq, by rw [over_len (by omega)]; exact hRl, by rw [List.length_set]; exact hQl, over_all h.ar az k, h.aq.set hql k, ?_, ?_, hg⟩
  · rw [hov, zv]
    have : 4294967296 ^ k * (P % D + 1) ≤ 4294967296 ^ k * D := Nat.mul_le_mul_left _ hm
    rw [Nat.mul_add, Nat.mul_comm _ D] at this
    omega
  · rw [hov, zv, set_drop_val _ (by omega)]
    have e4 := h.eq
    rw [e1] at e4
    generalize val 4294967296 (R.take k) = lo at *
    generalize val 4294967296 (Q.drop (k + 1)) = V at *
    rw [Nat.pow_succ] at e4
    generalize P % D = r at *
    generalize P / D = q at *
    generalize (4294967296 : Nat) ^ k = E at *
    subst hdm
    rw [e4]
    simp only [Nat.mul_add, Nat.mul_assoc, Nat.mul_left_comm]
    grind

theorem over_over {R Z Z2 : List Nat} {k : Nat} (h : k + Z.length ≤ R.length) (hl : Z2.length = Z.length) : over (over R Z k) Z2 k = over R Z2 k := by
  refine ext_nth ?_ fun j hj => ?_
  · rw [over_len (by rw [over_len h]; omega), over_len h, over_len (by omega)]
  · by_cases h1 : k ≤ j ∧ j < k + Z2.length
    · obtain ⟨i, rfl⟩ : ∃ i, j = k + i := ⟨j - k, by omega⟩
      rw [over_in (by rw [over_len h]; omega) (by omega), over_in (by omega) (by omega)]
    · rw [over_out (by rw [over_len h]; omega) (by omega), over_out h (by omega), over_out (by omega) (by omega)]
theorem Blk.own {w : World} {g B : Nat} {L : List Nat} {n : Nat} (h : Blk w g L) (hB : B ≤ g) (hn : L.length = n) (hc : n ≤ 9223372036854775807) : Own w 73 .u32 B (.slice (some ⟨g, 0, none⟩) n n) L := by
  subst hn
  exact .inr ⟨g, _, _, rfl, hB, h, Nat.le_refl _, hc, fun j _ => rfl⟩
theorem take_small {b n : Nat} {R : List Nat} (h : val b R < b ^ n) (hn : n ≤ R.length) : val b (R.take n) = val b R := by
  have e := val_take_drop b R hn
  rcases Nat.eq_zero_or_pos (val b (R.drop n)) with z | z
  · rw [z, Nat.mul_zero, Nat.add_zero] at e; exact e.symm
  · have := Nat.mul_le_mul_left (b ^ n) z; omega
theorem DivInv.end_ {w wr : World} {gr gb gq la n s A B : Nat} {by_ R Q : List Nat} (h : DivInv w wr gr gb gq la n 0 (A * 2 ^ s) (B * 2 ^ s) by_ R Q) (hD : B * 2 ^ s < 4294967296 ^ n) (hn : n ≤ la) :
    A / B = val 4294967296 Q ∧ A % B = val 4294967296 (R.take n) / 2 ^ s := by
  have h1 := h.lt
  have h2 := h.eq
  rw [Nat.pow_zero, Nat.mul_one] at h1
  rw [Nat.pow_zero, Nat.one_mul, List.drop_zero] at h2
  rw [take_small (by omega) (by rw [h.rl]; omega)]
  exact div_shift (Nat.pow_pos (by omega)) h2 h1

end Go.Proofs.Yteblgmjpociffaa

namespace Go.Proofs.Yteblgmjpociffaa
open Go.RowKit

theorem lead_facts {top : Nat} (h0 : 0 < top) (h1 : top < 4294967296) : ∃ s : Nat, (32 : Int) - (Lib.bitLen ((top : Nat) : Int).toNat : Int) = (s : Int) ∧ s < 32 ∧ top * 2 ^ s < 4294967296 ∧ 2147483648 ≤ top * 2 ^ s := by
  have a := Lib.bitLen_le top 32 (by omega) (by omega)
  have b := bitLen_lt top (by omega)
  have c := bitLen_ge top (by omega) h0
  rw [Int.toNat_natCast]
  generalize Lib.bitLen top = l at *
  refine ⟨32 - l, by omega, by omega, ?_, ?_⟩
  · have := Nat.mul_lt_mul_of_pos_right b (Nat.pow_pos (n := 32 - l) (show 0 < 2 by omega))
    rw [← Nat.pow_add, show l + (32 - l) = 32 by omega] at this
    exact this
  · have := Nat.mul_le_mul_right (2 ^ (32 - l)) c.1
    rw [← Nat.pow_add, show l - 1 + (32 - l) = 31 by omega] at this
    exact this

theorem norm_facts {b B0 : List Nat} {n s top : Nat} (hb : b.length = n) (hn : 1 ≤ n) (ab : All 4294967296 b) (htop : nth b (n - 1) = top) (h3 : top * 2 ^ s < 4294967296) (h4 : 2147483648 ≤ top * 2 ^ s)
    (hs : s < 32) (hB : B0.length = n + 1) (hv : val 4294967296 B0 = val 4294967296 b * 2 ^ s) (aB : All 4294967296 B0) :
    val 4294967296 (B0.take n) = val 4294967296 b * 2 ^ s ∧ val 4294967296 b * 2 ^ s < 4294967296 ^ n ∧ 2147483648 ≤ nth (B0.take n) (n - 1) ∧ 4294967296 ^ (n - 1) ≤ val 4294967296 b := by
  obtain ⟨m, rfl⟩ : ∃ m, n = m + 1 := ⟨n - 1, by omega⟩
  rw [Nat.add_sub_cancel] at htop ⊢
  have hp : 0 < 2 ^ s := Nat.pow_pos (by omega)
  have e1 := val_take_step 4294967296 b (k := m) (by omega)
  rw [← hb, List.take_length, htop] at e1
  have l1 := val_lt (ab.take m)
  rw [List.length_take, Nat.min_eq_left (by omega)] at l1
  have hdvd : 4294967296 = 2 ^ s * 2 ^ (32 - s) := by rw [← Nat.pow_add, show s + (32 - s) = 32 by omega]
  have ht1 : (top + 1) * 2 ^ s ≤ 4294967296 := by
    rw [hdvd, Nat.mul_comm] at h3 ⊢
    have := Nat.lt_of_mul_lt_mul_left h3
    exact Nat.mul_le_mul_left _ this
  have htpos : 1 ≤ top := Nat.pos_of_ne_zero (fun h => by subst h; simp at h4)
  have c1 : val 4294967296 b * 2 ^ s < 4294967296 ^ (m + 1) := by
    have h5 : val 4294967296 b < 4294967296 ^ m * (top + 1) := by rw [e1, Nat.mul_add]; omega
    have h6 := Nat.mul_lt_mul_of_pos_right h5 hp
    rw [Nat.mul_assoc] at h6
    have h7 := Nat.mul_le_mul_left (4294967296 ^ m) ht1
    rw [Nat.pow_succ]
    omega
  have c2 : 4294967296 ^ m ≤ val 4294967296 b := by
    have := Nat.mul_le_mul_left (4294967296 ^ m) htpos
    rw [e1]; omega
  have e2 := val_take_step 4294967296 B0 (k := m + 1) (by omega)
  rw [show m + 1 + 1 = B0.length by omega, List.take_length, hv] at e2
  have z : nth B0 (m + 1) = 0 := by
    rcases Nat.eq_zero_or_pos (nth B0 (m + 1)) with h | h
    · exact h
    · have := Nat.mul_le_mul_left (4294967296 ^ (m + 1)) h
      omega
  rw [z, Nat.mul_zero, Nat.add_zero] at e2
  refine ⟨e2.symm, c1, ?_, c2⟩
  rw [nth_take _ (by omega)]
  have e3 := val_take_step 4294967296 B0 (k := m) (by omega)
  rw [← e2, e1] at e3
  have l2 := val_lt (aB.take m)
  rw [List.length_take, Nat.min_eq_left (by omega)] at l2
  have h8 := Nat.mul_le_mul_left (4294967296 ^ m) h4
  have h9 : 4294967296 ^ m * 2147483648 < 4294967296 ^ m * (nth B0 m + 1) := by
    rw [Nat.add_mul, Nat.mul_assoc] at e3
    rw [Nat.mul_add]
    omega
  have := Nat.lt_of_mul_lt_mul_left h9
  omega

theorem DivInv.start {w wr : World} {gr gb gq la n D : Nat} {by_ R : List Nat} (hr : Blk wr gr R) (hb : Blk wr gb by_) (hq : RowF wr 73 gq (la - n + 1) (fun _ => .int .u32 0))
    (rl : R.length = la + 1) (ar : All 4294967296 R) (hlt : val 4294967296 R < D * 4294967296 ^ (la - n + 1)) (hg : w.grownBy wr none) :
    DivInv w wr gr gb gq la n (la - n + 1) (val 4294967296 R) D by_ R (List.replicate (la - n + 1) 0) := by
  have hv : val 4294967296 ((List.replicate (la - n + 1) 0).drop (la - n + 1)) = 0 := by rw [List.drop_replicate, val_rep0]
  refine ⟨hr, hb, ?_, rl, List.length_replicate, ar, All.rep (by omega) _, hlt, ?_, hg⟩
  · exact Blk.of hq List.length_replicate (fun j hj => by simp [nth, hj])
  · rw [hv, Nat.mul_zero, Nat.mul_zero, Nat.zero_add]

end Go.Proofs.Yteblgmjpociffaa

namespace Go.Proofs.Yteblgmjpociffaa
open Go.RowKit
end Go.Proofs.Yteblgmjpociffaa

namespace Go.Proofs.Yteblgmjpociffaa
open Go.RowKit

/-- A fits into i limbs. -/
def Bd (A i : Nat) : Prop := A < 4294967296 ^ i
theorem Bd.of {xs : List Nat} {i : Nat} (h : All 4294967296 xs) (hl : xs.length ≤ i) : Bd (val 4294967296 xs) i :=
  Nat.lt_of_lt_of_le (val_lt h) (Nat.pow_le_pow_right (by omega) hl)
theorem Bd.row (xs : List Nat) (h : All 4294967296 xs) (i : Nat) : Bd (val 4294967296 (xs.take i)) i := Bd.of (h.take i) (by rw [List.length_take]; omega)
theorem Bd.len {A i : Nat} (h : Bd A i) : (dig 4294967296 A).length ≤ i := dig_len_le (by omega) i A h
theorem Bd.more {A i j : Nat} (h : Bd A i) (hj : i ≤ j) : Bd A j := Nat.lt_of_lt_of_le h (Nat.pow_le_pow_right (by omega) hj)
theorem Bd.le {A B i : Nat} (h : Bd A i) (hB : B ≤ A) : Bd B i := Nat.lt_of_le_of_lt hB h
theorem Bd.mul {A B i j : Nat} (h : Bd A i) (k : Bd B j) : Bd (A * B) (i + j) := by
  unfold Bd at *
  rw [Nat.pow_add]
  exact Nat.mul_lt_mul_of_le_of_lt (Nat.le_of_lt h) k (by omega)
theorem Bd.add {A B i j : Nat} (h : Bd A i) (k : Bd B j) : Bd (A + B) (i + j + 1) := by
  have h1 := h.more (show i ≤ i + j by omega)
  have h2 := k.more (show j ≤ i + j by omega)
  unfold Bd at *
  rw [Nat.pow_succ]
  omega
theorem Bd.shl {A i s k : Nat} (h : Bd A i) (hs : s ≤ 32 * k) : Bd (A * 2 ^ s) (i + k) := by
  unfold Bd at *
  rw [Nat.pow_add]
  have : (2 : Nat) ^ s ≤ 4294967296 ^ k := by
    rw [show 4294967296 = 2 ^ 32 by rfl, ← Nat.pow_mul]
    exact Nat.pow_le_pow_right (by omega) hs
  have hp : 0 < (2 : Nat) ^ s := Nat.pow_pos (by omega)
  exact Nat.lt_of_lt_of_le (Nat.mul_lt_mul_of_pos_right h hp) (Nat.mul_le_mul_left _ this)
theorem Bd.div {A i : Nat} (h : Bd A i) (B : Nat) : Bd (A / B) i := h.le (Nat.div_le_self _ _)
theorem Bd.mod {A i : Nat} (h : Bd A i) (B : Nat) : Bd (A % B) i := h.le (Nat.mod_le _ _)
theorem Bd.sub {A i : Nat} (h : Bd A i) (B : Nat) : Bd (A - B) i := h.le (Nat.sub_le _ _)
theorem bd_len {xs : List Nat} {i : Nat} : (xs.take i).length ≤ i := by rw [List.length_take]; omega

/-- A number from 0 to n - 1 was handed back. -/
def Below_ (w : World) (n : Nat) (e : Ending) (w' : World) : Prop := ∃ k : Nat, k < n ∧ e = .returned (.int .i64 k) ∧ w = w'
/-- The slice v is the number X, of at most k limbs. -/
def Num (w : World) (v : Value) (X k : Nat) : Prop := ∃ xs, Sl w .u32 v xs ∧ All 4294967296 xs ∧ val 4294967296 xs = X ∧ xs.length ≤ k
/-- .. in the form of a result. -/
def NumC (w : World) (v : Value) (X k : Nat) : Prop := Sl w .u32 v (dig 4294967296 X) ∧ Bd X k
theorem NumC.num {w : World} {v : Value} {X k : Nat} (h : NumC w v X k) : Num w v X k := ⟨_, h.1, dig_all (by omega) _, val_dig (by omega) _, h.2.len⟩
theorem Num.grown {w w' : World} {v : Value} {X k : Nat} (h : Num w v X k) (g : w.grownBy w' none) : Num w' v X k := by
  obtain ⟨xs, h1, h2⟩ := h
  exact ⟨xs, h1.grown g (.inl rfl), h2⟩
theorem NumC.grown {w w' : World} {v : Value} {X k : Nat} (h : NumC w v X k) (g : w.grownBy w' none) : NumC w' v X k := ⟨h.1.grown g (.inl rfl), h.2⟩
theorem Num.bd {w : World} {v : Value} {X k : Nat} (h : Num w v X k) : Bd X k := by
  obtain ⟨xs, _, h2, rfl, h4⟩ := h
  exact Bd.of h2 h4
theorem Num.slice {w : World} {v : Value} {X k : Nat} (h : Num w v X k) : ∃ p n cap, v = .slice p n cap := by
  obtain ⟨xs, ⟨p, cap, rfl, _⟩, _⟩ := h
  exact ⟨p, _, cap, rfl⟩
theorem NumC.sliceC {w : World} {v : Value} {X k : Nat} (h : NumC w v X k) : ∃ p cap, v = .slice p (dig 4294967296 X).length cap := by
  obtain ⟨⟨p, cap, rfl, _⟩, _⟩ := h
  exact ⟨p, cap, rfl⟩
theorem Num.row {w : World} {v : Value} {xs : List Nat} (h : Sl w .u32 v xs) (a : All 4294967296 xs) (k : Nat) (hl : xs.length ≤ k) : Num w v (val 4294967296 xs) k := ⟨xs, h, a, rfl, hl⟩
theorem Num.lit (w : World) (x : Nat) (hx : x < 4294967296) : Num (w.alloc (.cells #[.int .u32 x] 73)) (.slice (some ⟨w.heap.size, 0, none⟩) 1 1) x 1 :=
  ⟨[x], (Own.one w .u32 73 x).sl, All.cons hx (All.nil _), by simp [val], Nat.le_refl _⟩

theorem Num.one (w : World) : Num (w.alloc (.cells #[.int .u32 1] 73)) (.slice (some ⟨w.heap.size, 0, none⟩) 1 1) 1 1 := Num.lit w 1 (by omega)
theorem wf_lo {n : Int} (h : (Lit.int .i64 n).wf = true) : -9223372036854775808 ≤ n := by
  have : -9223372036854775808 ≤ n ∧ n ≤ 9223372036854775807 := by simpa [Lit.wf, IntKind.min, IntKind.max, IntKind.signed, IntKind.bits] using h
  exact this.1
theorem wf_hi {n : Int} (h : (Lit.int .i64 n).wf = true) : n ≤ 9223372036854775807 := by
  have : -9223372036854775808 ≤ n ∧ n ≤ 9223372036854775807 := by simpa [Lit.wf, IntKind.min, IntKind.max, IntKind.signed, IntKind.bits] using h
  exact this.2
theorem bits_zero {X : Nat} (h : (dig 2 X).length = 0) : X = 0 := (dig_len_zero (by omega)).1 h
theorem bits_ne {X : Nat} (h : (dig 2 X).length ≠ 0) : X ≠ 0 := fun e => h ((dig_len_zero (by omega)).2 e)
theorem bits_small {X k : Nat} (h : Bd X k) : (dig 2 X).length ≤ 32 * k := by
  refine bits_le ?_
  rw [Nat.pow_mul]
  exact h

/-- A number was made. -/
def MadeN (w : World) (X k : Nat) (e : Ending) (w' : World) : Prop := ∃ v, e = .returned v ∧ Own w' 73 .u32 w.heap.size v (dig 4294967296 X) ∧ Bd X k ∧ w.grownBy w' none
theorem MadeN.of {w : World} {X Y k : Nat} {e : Ending} {w' : World} (h : Made 73 .u32 w (dig 4294967296 X) e w') (hY : X = Y) (hb : Bd Y k) : MadeN w Y k e w' := by
  subst hY
  obtain ⟨v, h1, h2, h3⟩ := h
  exact ⟨v, h1, h2, hb, h3⟩

section
variable {w : World} {v u : Value} {X Y i j : Nat}
theorem Add_n (hx : Num w v X i) (hy : Num w u Y j) (hi : i + j ≤ 1000000) : Calls Try.prog 74 #[v, u] w (MadeN w (X + Y) (i + j + 1)) := by
  have b := hx.bd.add hy.bd
  obtain ⟨xs, s1, a1, rfl, l1⟩ := hx
  obtain ⟨ys, s2, a2, rfl, l2⟩ := hy
  exact (Add_any s1 s2 a1 a2 (by omega) (by omega)).mono fun _ _ h => MadeN.of h rfl b
theorem Mul_n (hx : Num w v X i) (hy : Num w u Y j) (hi : i + j ≤ 1000000) : Calls Try.prog 81 #[v, u] w (MadeN w (X * Y) (i + j)) := by
  have b := hx.bd.mul hy.bd
  obtain ⟨xs, s1, a1, rfl, l1⟩ := hx
  obtain ⟨ys, s2, a2, rfl, l2⟩ := hy
  exact (Mul_any s1 s2 a1 a2 (by omega) (by omega)).mono fun _ _ h => MadeN.of h rfl b
theorem Norm_n (hx : Num w v X i) (hi : i ≤ 1000000) : Calls Try.prog 80 #[v] w (MadeN w X i) := by
  have b := hx.bd
  obtain ⟨xs, s1, a1, rfl, l1⟩ := hx
  refine (Norm_any s1 (by omega)).mono fun _ _ h => ?_
  rw [trim_eq (by omega) a1] at h
  exact MadeN.of h rfl b
theorem Bits_n (hx : Num w v X i) (hi : i ≤ 1000000) : Calls Try.prog 99 #[v] w fun e w' => e = .returned (.int .i64 ((dig 2 X).length : Nat)) ∧ w = w' := by
  obtain ⟨xs, s1, a1, rfl, l1⟩ := hx
  exact Bits_any s1 a1 (by omega)
theorem Cmp_n (r : Int) (hx : Num w v X i) (hy : Num w u Y j) (hr : cmpN X Y = r) : Calls Try.prog 84 #[v, u] w fun e w' => e = .returned (.int .i64 r) ∧ w.grownBy w' none := by
  subst hr
  obtain ⟨xs, s1, a1, rfl, l1⟩ := hx
  obtain ⟨ys, s2, a2, rfl, l2⟩ := hy
  exact Cmp_b s1 s2 a1 a2
theorem Same_n (hx : NumC w v X i) (hy : NumC w u Y j) (h : X = Y) : Calls Try.prog 85 #[v, u] w fun e w' => e = .returned (.bool true) ∧ w.grownBy w' none := by
  subst h
  have := Same_b hx.1 hy.1
  rwa [eqB_self] at this
/-- A difference was made. -/
def SubN (w : World) (X k : Nat) (e : Ending) (w' : World) : Prop := ∃ v, e = .returned (.tuple #[v, .bool true]) ∧ Own w' 73 .u32 w.heap.size v (dig 4294967296 X) ∧ Bd X k ∧ w.grownBy w' none
theorem Sub_n (hx : Num w v X i) (hy : Num w u Y j) (hi : i ≤ 1000000) (hle : Y ≤ X) : Calls Try.prog 89 #[v, u] w (SubN w (X - Y) i) := by
  have b := hx.bd.sub Y
  obtain ⟨xs, s1, a1, rfl, l1⟩ := hx
  obtain ⟨ys, s2, a2, rfl, l2⟩ := hy
  refine (Sub_any s1 s2 a1 a2 (by omega)).mono fun e w' h => ?_
  rcases h with ⟨h, _⟩ | ⟨_, v, h1, h2, h3⟩
  · omega
  · exact ⟨v, h1, h2, b, h3⟩
theorem Sub_no (hx : Num w v X i) (hy : Num w u Y j) (hi : i ≤ 1000000) (hlt : X < Y) : Calls Try.prog 89 #[v, u] w fun e w' => e = .returned (.tuple #[.slice none 0 0, .bool false]) ∧ w.grownBy w' none := by
  obtain ⟨xs, s1, a1, rfl, l1⟩ := hx
  obtain ⟨ys, s2, a2, rfl, l2⟩ := hy
  refine (Sub_any s1 s2 a1 a2 (by omega)).mono fun e w' h => ?_
  rcases h with ⟨_, h, g⟩ | ⟨h, _⟩
  · exact ⟨h, g⟩
  · omega
/-- A quotient and a remainder were made. -/
def DivN (w : World) (Q R i j : Nat) (e : Ending) (w' : World) : Prop :=
  ∃ v u, e = .returned (.tuple #[v, u, .int .i64 0]) ∧ Own w' 73 .u32 w.heap.size v (dig 4294967296 Q) ∧ Own w' 73 .u32 w.heap.size u (dig 4294967296 R) ∧
    (v.ownBlock = none ∨ v.ownBlock ≠ u.ownBlock) ∧ Bd Q i ∧ Bd R j ∧ w.grownBy w' none
theorem Sum2_n {p q : Option Addr} {n m cap cap' : Nat} (hx : Num w (.slice p n cap) X i) (hy : Num w (.slice q m cap') Y j) (hi : i + j ≤ 1000000) :
    Calls Try.prog 88 #[.slice (some ⟨w.heap.size, 0, none⟩) 2 2] (w.alloc (.cells #[.slice p n cap, .slice q m cap'] 34)) (MadeN w (X + Y) (i + j + 1)) := by
  have b := hx.bd.add hy.bd
  obtain ⟨xs, s1, a1, rfl, l1⟩ := hx
  obtain ⟨ys, s2, a2, rfl, l2⟩ := hy
  refine (Sum_any _ 2 (two (.slice p n cap) (.slice q m cap')) (two' xs ys) _ (slS_two w _ _ _) ?_ ?_ 1000000 ?_ (by omega)).mono fun e w' h => ?_
  · intro j hj
    have : j = 0 ∨ j = 1 := by omega
    rcases this with rfl | rfl
    · exact s1.grown (grown_alloc _ _ none) (.inl rfl)
    · exact s2.grown (grown_alloc _ _ none) (.inl rfl)
  · intro j hj
    have : j = 0 ∨ j = 1 := by omega
    rcases this with rfl | rfl
    · exact a1
    · exact a2
  · intro j' hj
    have : j' = 0 ∨ j' = 1 := by omega
    rcases this with rfl | rfl
    · show xs.length ≤ _; omega
    · show ys.length ≤ _; omega
  · exact MadeN.of (h.later (grown_alloc w _ none)) (by simp [sumF, two']) b
/-- Row: the first k limbs. -/
theorem Row_n {xs : List Nat} (hx : Sl w .u32 v xs) (ax : All 4294967296 xs) (k : Nat) :
    Calls Try.prog 60 #[v, .int .i64 k] w fun e w' => ∃ v', e = .returned v' ∧ Num w v' (val 4294967296 (xs.take k)) k ∧ w = w' :=
  (Row_sl hx).mono fun _ _ ⟨v', h1, h2, h3⟩ => ⟨v', h1, Num.row h2 (ax.take k) k bd_len, h3⟩
end

end Go.Proofs.Yteblgmjpociffaa

namespace Go.Proofs.Yteblgmjpociffaa
open Go.RowKit

set_option maxHeartbeats 400000 in
theorem Copy_any {v : Value} {xs : List Nat} {w : World} (hx : Sl w .u32 v xs) (hl : xs.length ≤ 17592186044415) :
    Calls Try.prog 71 #[v] w (Made 73 .u32 w xs) := by
  obtain ⟨p, cap, rfl, -⟩ := id hx
  obtain ⟨i0, hi, hz0, hz1, hz2⟩ := info_parts Try.infoU
  have Hx := Lib.hid hx
  clear hx
  go_enter Try.func71, Try.ntmps71
  go_wp2_with (at_builtin; refine wp_appendN rfl _ _ 34 rfl 73 i0 (.int .u32 0) .u32 Try.underlying34 hi hz0 hz1 (by omega) rfl w.heap.size (.slice none 0 0) [] rfl (Own.nil _ _ _ _) p xs.length cap xs rfl Hx.out (by simp; omega) (Nat.le_refl _) ?_; intro v' w' h1 h2)
  go_ret
  exact ⟨_, rfl, by simpa using h1, h2⟩

theorem nth_rep {n j : Nat} (x : Nat) (h : j < n) : nth (List.replicate n x) j = x := by simp [nth, h]
theorem NumC.none (w : World) : NumC w (.slice none 0 0) 0 1 := ⟨Sl.nil _ _, by unfold Bd; exact Nat.pow_pos (by omega)⟩
/-- What was written into memory that was made between is new memory. -/
theorem grown_own {w w1 w2 : World} {e : TypeId} {k : IntKind} {v : Value} {xs : List Nat} (g : w1.grownBy w2 v.ownBlock) (h : Own w1 e k w.heap.size v xs) (g0 : w.grownBy w1 none) : w.grownBy w2 none :=
  ⟨g.os.trans g0.os, g.tape.trans g0.tape, g.output.trans g0.output, Nat.le_trans g0.size g.size,
    fun i hi _ => (g.block i (Nat.lt_of_lt_of_le hi g0.size) (fun e => by have := (h.lt i e.symm).1; omega)).trans (g0.block i hi (by simp))⟩
/-- A lent row: three limbs of its own behind it. -/
def Lent (w : World) (B : Nat) (v : Value) (xs : List Nat) : Prop := ∃ g, B ≤ g ∧ v = .slice (some ⟨g, 0, none⟩) xs.length (xs.length + 3) ∧ Blk w g (xs ++ List.replicate 3 1431655765)
theorem Lent.sl {w : World} {B : Nat} {v : Value} {xs : List Nat} (h : Lent w B v xs) (hl : xs.length ≤ 1000000) : Sl w .u32 v xs := by
  obtain ⟨g, -, rfl, h⟩ := h
  have := h.sl 0 xs.length (xs.length + 3) (by simp) (by omega) (by omega)
  rw [List.drop_zero, List.take_append_of_le_length (Nat.le_refl _), List.take_length] at this
  exact this
theorem Lent.grown {w w' : World} {B : Nat} {v : Value} {xs : List Nat} {row : Option Nat} (h : Lent w B v xs) (hg : w.grownBy w' row) (hne : row = none ∨ v.ownBlock ≠ row) : Lent w' B v xs := by
  obtain ⟨g, hB, rfl, h⟩ := h
  refine ⟨g, hB, rfl, h.grown hg ?_⟩
  rcases hne with rfl | hne
  · simp
  · simpa [Value.ownBlock] using hne
theorem Lent.lt {w : World} {B : Nat} {v : Value} {xs : List Nat} (h : Lent w B v xs) : ∃ g, v.ownBlock = some g ∧ B ≤ g ∧ g < w.heap.size := by
  obtain ⟨g, hB, rfl, h⟩ := h
  exact ⟨g, rfl, hB, h.lt⟩

/-- What Lend hands back. -/
def LentOut (w : World) (xs : List Nat) (e : Ending) (w' : World) : Prop := ∃ v, e = .returned v ∧ Lent w' w.heap.size v xs ∧ w.grownBy w' none

/-- What Spoil leaves. -/
def Spoiled (w : World) (v : Value) (e : Ending) (w' : World) : Prop := e = .returned (.tuple #[]) ∧ w.grownBy w' v.ownBlock

set_option maxHeartbeats 1000000 in
theorem Spoil_some (g n cap : Nat) (c : Nat → Value) (w : World) (hr : RowF w 73 g cap c) (hn : n ≤ cap) (hc : cap ≤ 9223372036854775807) :
    Calls Try.prog 20 #[.slice (some ⟨g, 0, none⟩) n cap] w (Spoiled w (.slice (some ⟨g, 0, none⟩) n cap)) := by
  have Hr := Lib.hid hr
  clear hr
  go_enter Try.func20, Try.ntmps20
  go_wp2_with fail
  go_loopw [10] (fun i wr => ∃ (k : Nat) (c' : Nat → Value), k ≤ cap ∧ i = .int .i64 k ∧ RowF wr 73 g cap c' ∧ w.grownBy wr (some g)) (fun i _ => (cap - (intOf i).toNat))
  case atStart => exact ⟨0, c, by omega, rfl, Hr.out, grown_refl _ _⟩
  case round =>
    obtain ⟨k, c', hk, rfl, rr, gr⟩ := hrel
    by_cases hlt : k < cap
    · have c1 : wr.cell? ⟨g, k, none⟩ = some (c' k) := rr.cell hlt
      have f1 : wr.frozen? ⟨g, k, none⟩ = false := rr.frozen _
      have i1 : (k : Int) < (cap : Int) := by omega
      have Rr := Lib.hid rr
      have Gr := Lib.hid gr
      clear rr gr
      go_wp2_with fail
      go_roundw
      case rel => exact ⟨k + 1, _, by omega, by go_num, Rr.out.set k _, grown_trans Gr.out (grown_set _ _ _ _)⟩
      case measure => simp [intOf]; omega
    · obtain rfl : k = cap := by omega
      go_wp2_with fail
      go_end0
      exact ⟨rfl, gr⟩

theorem Spoil_nil (w : World) : Calls Try.prog 20 #[.slice none 0 0] w (Spoiled w (.slice none 0 0)) := by
  go_enter Try.func20, Try.ntmps20
  go_wp2_with fail
  refine wp_loop_rounds 1 ?_
  rw [rounds_succ]
  go_wp2_with fail
  go_end0
  exact ⟨rfl, grown_refl _ _⟩

theorem Spoil_any {w : World} {B : Nat} {v : Value} {xs : List Nat} (h : Own w 73 .u32 B v xs) : Calls Try.prog 20 #[v] w (Spoiled w v) := by
  rcases h with ⟨rfl, rfl⟩ | ⟨g, cap, c, rfl, h1, h2, h3, h4, h5⟩
  · exact Spoil_nil w
  · exact Spoil_some g xs.length cap c w h2 h3 h4

end Go.Proofs.Yteblgmjpociffaa
