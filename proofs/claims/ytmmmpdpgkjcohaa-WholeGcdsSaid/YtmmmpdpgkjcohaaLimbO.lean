/- Package limb: divLong: the walk. -/
import Derived.Test.YtmmmpdpgkjcohaaLimbN
import Derived.Deep.DeepCutAuto
namespace Go.Proofs.Ytmmmpdpgkjcohaa
open Go.RowKit

theorem lead_facts {top : Nat} (h0 : 0 < top) (h1 : top < 4294967296) : ∃ s : Nat, (32 : Int) - (Lib.bitLen ((top : Nat) : Int).toNat : Int) = (s : Int) ∧ s < 32 ∧ top * 2 ^ s < 4294967296 ∧ 2147483648 ≤ top * 2 ^ s := by
  have a := Lib.bitLen_le top 32 (by omega) (by omega)
  have b := bitLen_lt top (by omega)
  have c := bitLen_ge top (by omega) h0
  rw [Int.toNat_natCast]
  generalize Lib.bitLen top = l at *
  refine ⟨32 - l, by omega, by omega, ?_, ?_⟩
  · have := Nat.mul_lt_mul_of_pos_right b (Nat.pow_pos (n := 32 - l) (show 0 < 2 by omega))
    rw [← Nat.pow_add, show l + (32 - l) = 32 by omega] at this
    exact this
  · have := Nat.mul_le_mul_right (2 ^ (32 - l)) c.1
    rw [← Nat.pow_add, show l - 1 + (32 - l) = 31 by omega] at this
    exact this

theorem norm_facts {b B0 : List Nat} {n s top : Nat} (hb : b.length = n) (hn : 1 ≤ n) (ab : All 4294967296 b) (htop : nth b (n - 1) = top) (h3 : top * 2 ^ s < 4294967296) (h4 : 2147483648 ≤ top * 2 ^ s)
    (hs : s < 32) (hB : B0.length = n + 1) (hv : val 4294967296 B0 = val 4294967296 b * 2 ^ s) (aB : All 4294967296 B0) :
    val 4294967296 (B0.take n) = val 4294967296 b * 2 ^ s ∧ val 4294967296 b * 2 ^ s < 4294967296 ^ n ∧ 2147483648 ≤ nth (B0.take n) (n - 1) ∧ 4294967296 ^ (n - 1) ≤ val 4294967296 b := by
  obtain ⟨m, rfl⟩ : ∃ m, n = m + 1 := ⟨n - 1, by omega⟩
  rw [Nat.add_sub_cancel] at htop ⊢
  have hp : 0 < 2 ^ s := Nat.pow_pos (by omega)
  have e1 := val_take_step 4294967296 b (k := m) (by omega)
  rw [← hb, List.take_length, htop] at e1
  have l1 := val_lt (ab.take m)
  rw [List.length_take, Nat.min_eq_left (by omega)] at l1
  have hdvd : 4294967296 = 2 ^ s * 2 ^ (32 - s) := by rw [← Nat.pow_add, show s + (32 - s) = 32 by omega]
  have ht1 : (top + 1) * 2 ^ s ≤ 4294967296 := by
    rw [hdvd, Nat.mul_comm] at h3 ⊢
    have := Nat.lt_of_mul_lt_mul_left h3
    exact Nat.mul_le_mul_left _ this
  have htpos : 1 ≤ top := Nat.pos_of_ne_zero (fun h => by subst h; simp at h4)
  have c1 : val 4294967296 b * 2 ^ s < 4294967296 ^ (m + 1) := by
    have h5 : val 4294967296 b < 4294967296 ^ m * (top + 1) := by rw [e1, Nat.mul_add]; omega
    have h6 := Nat.mul_lt_mul_of_pos_right h5 hp
    rw [Nat.mul_assoc] at h6
    have h7 := Nat.mul_le_mul_left (4294967296 ^ m) ht1
    rw [Nat.pow_succ]
    omega
  have c2 : 4294967296 ^ m ≤ val 4294967296 b := by
    have := Nat.mul_le_mul_left (4294967296 ^ m) htpos
    rw [e1]; omega
  have e2 := val_take_step 4294967296 B0 (k := m + 1) (by omega)
  rw [show m + 1 + 1 = B0.length by omega, List.take_length, hv] at e2
  have z : nth B0 (m + 1) = 0 := by
    rcases Nat.eq_zero_or_pos (nth B0 (m + 1)) with h | h
    · exact h
    · have := Nat.mul_le_mul_left (4294967296 ^ (m + 1)) h
      omega
  rw [z, Nat.mul_zero, Nat.add_zero] at e2
  refine ⟨e2.symm, c1, ?_, c2⟩
  rw [nth_take _ (by omega)]
  have e3 := val_take_step 4294967296 B0 (k := m) (by omega)
  rw [← e2, e1] at e3
  have l2 := val_lt (aB.take m)
  rw [List.length_take, Nat.min_eq_left (by omega)] at l2
  have h8 := Nat.mul_le_mul_left (4294967296 ^ m) h4
  have h9 : 4294967296 ^ m * 2147483648 < 4294967296 ^ m * (nth B0 m + 1) := by
    rw [Nat.add_mul, Nat.mul_assoc] at e3
    rw [Nat.mul_add]
    omega
  have := Nat.lt_of_mul_lt_mul_left h9
  omega

theorem DivInv.start {w wr : World} {gr gb gq la n D : Nat} {by_ R : List Nat} (hr : Blk wr gr R) (hb : Blk wr gb by_) (hq : RowF wr 65 gq (la - n + 1) (fun _ => .int .u32 0))
    (rl : R.length = la + 1) (ar : All 4294967296 R) (hlt : val 4294967296 R < D * 4294967296 ^ (la - n + 1)) (hg : w.grownBy wr none) :
    DivInv w wr gr gb gq la n (la - n + 1) (val 4294967296 R) D by_ R (List.replicate (la - n + 1) 0) := by
  have hv : val 4294967296 ((List.replicate (la - n + 1) 0).drop (la - n + 1)) = 0 := by rw [List.drop_replicate, val_rep0]
  refine ⟨hr, hb, ?_, rl, List.length_replicate, ar, All.rep (by omega) _, hlt, ?_, hg⟩
  · exact Blk.of hq List.length_replicate (fun j hj => by simp [nth, hj])
  · rw [hv, Nat.mul_zero, Nat.mul_zero, Nat.zero_add]

set_option maxHeartbeats 4000000 in
set_option maxRecDepth 100000 in
theorem divLong_any {pa pb : Option Addr} {capa capb : Nat} {a b : List Nat} {w : World} (ha : Sl w .u32 (.slice pa a.length capa) a) (hb : Sl w .u32 (.slice pb b.length capb) b)
    (aa : All 4294967296 a) (ab : All 4294967296 b) (hn : 2 ≤ b.length) (hla : b.length ≤ a.length) (hl : a.length ≤ 8796093022208) (htop : nth b (b.length - 1) ≠ 0) :
    Calls Try.prog 90 #[.slice pa a.length capa, .slice pb b.length capb] w (Divided w (val 4294967296 a / val 4294967296 b) (val 4294967296 a % val 4294967296 b)) := by
  obtain ⟨i0, hi, hz0, hz1, hz2⟩ := info_parts Try.infoU
  obtain ⟨la, hlal⟩ : ∃ la, a.length = la := ⟨_, rfl⟩
  obtain ⟨n, hnl⟩ : ∃ n, b.length = n := ⟨_, rfl⟩
  obtain ⟨top, htp⟩ : ∃ top, nth b (b.length - 1) = top := ⟨_, rfl⟩
  have htl : top < 4294967296 := by rw [← htp]; exact nth_lt (by omega) ab _
  rw [htp] at htop
  obtain ⟨s, hs1, hs2, hs3, hs4⟩ := lead_facts (Nat.pos_of_ne_zero htop) htl
  obtain ⟨p', cap', e', -, -, h3⟩ := id hb
  have hpp : p' = pb := by cases e'; rfl
  subst hpp
  rcases h3 with h3 | ⟨bb, boff, rfl, hbl, hyy⟩
  · rw [h3] at hn; simp at hn
  have c1 : w.cell? ⟨bb, boff + (n - 1), none⟩ = some (.int .u32 top) := by rw [hyy _ (by omega), ← hnl, htp]
  rw [hlal] at ha hla hl ⊢
  rw [hnl] at hb hn hla ⊢
  have mk1 := fun w => mk_eq hi hz0 hz1 hz2 (la + 1) (by omega) ((la : Int) + 1) (by omega) w
  have mk2 := fun w => mk_eq hi hz0 hz1 hz2 (n + 1) (by omega) ((n : Int) + 1) (by omega) w
  have hp0 : 0 < 2 ^ s := Nat.pow_pos (by omega)
  have i1 : (n : Int) - 1 < (n : Int) := by omega
  have Ha := Lib.hid ha
  have Hb := Lib.hid hb
  have Aa := Lib.hid aa
  have Ab := Lib.hid ab
  have Hal := Lib.hid hlal
  have Hbl := Lib.hid hnl
  have Htp := Lib.hid htp
  have S3 := Lib.hid hs3
  have S4 := Lib.hid hs4
  have Hs1 := Lib.hid hs1
  have Hp0 := Lib.hid hp0
  clear ha hb aa ab hlal hnl htp hs3 hs4 hs1 hyy e' htop hp0
  go_enter Try.func90, Try.ntmps90
  go_wp2_with fail
  refine (Lead32_any _ _ (by omega) (by omega)).mono ?_
  rintro e w' ⟨rfl, rfl⟩
  rw [Hs1.out]
  go_upto_region 3 with fail
  go_cut [8, 9] (fun rv bv wx => ∃ gr gb : Nat, rv = .slice (some ⟨gr, 0, none⟩) (la + 1) (la + 1) ∧ bv = .slice (some ⟨gb, 0, none⟩) (n + 1) (n + 1) ∧
    RowF wx 65 gr (la + 1) (fun _ => .int .u32 0) ∧ RowF wx 65 gb (n + 1) (fun _ => .int .u32 0) ∧ w.grownBy wx none ∧ w.heap.size ≤ gr ∧ w.heap.size ≤ gb ∧ gr ≠ gb ∧ gr < wx.heap.size ∧ gb < wx.heap.size)
  case first =>
    go_region
    all_goals (go_wp2_with fail; go_meet)
    · obtain ⟨w2, ew, r1, r2, g2, sz2⟩ := two_rows w (la + 1) (n + 1)
      rw [ew]
      exact ⟨_, _, rfl, rfl, r1, r2, g2, by omega, by omega, by omega, by omega, by omega⟩
    · obtain ⟨w2, ew, r2, r1, g2, sz2⟩ := two_rows w (n + 1) (la + 1)
      rw [ew]
      exact ⟨_, _, rfl, rfl, r1, r2, g2, by omega, by omega, by omega, by omega, by omega⟩
  case rest =>
    obtain ⟨gr, gb, rfl, rfl, r1, r2, g2, lo1, lo2, lo3, lo4, lo5⟩ := hcut
    clear mk1 mk2
    go_wp2_with fail
    have G2 := Lib.hid g2
    have R1 := Lib.hid r1
    have R2 := Lib.hid r2
    clear g2 r1 r2
    refine (shiftUp_any gr 0 (la + 1) (la + 1) s la _ _ a wc R1.out (by omega) hs2 (fun j _ => ⟨0, rfl⟩) (Ha.out.grown G2.out (.inl rfl)) ?_ Hal.out Aa.out).mono ?_
    · intro h e
      have := Ha.out.block_lt h _ e
      omega
    intro e w3 hwr
    obtain ⟨R0, z1, z2, z3, rfl, rr, gr3, sr3⟩ := hwr
    have BR := Lib.hid (show Blk w3 gr R0 from Blk.of rr z1 (fun j hj => lay_in0 _ _ _ hj))
    have RB := Lib.hid (R2.out.grown gr3 (by simp; omega))
    have G3 := Lib.hid (grown_new G2.out gr3 lo1)
    have Z1 := Lib.hid z1
    have Z2 := Lib.hid z2
    have Z3 := Lib.hid z3
    clear z1 z2 z3 rr gr3
    go_wp2_with fail
    refine (shiftUp_any gb 0 (n + 1) (n + 1) s n _ _ b w3 RB.out (by omega) hs2 (fun j _ => ⟨0, rfl⟩) (Hb.out.grown G3.out (.inl rfl)) ?_ Hbl.out Ab.out).mono ?_
    · intro h e
      have := Hb.out.block_lt h _ e
      omega
    intro e w4 hwr
    obtain ⟨B0, y1, y2, y3, rfl, rr, gr4, sr4⟩ := hwr
    have BB := Lib.hid (show Blk w4 gb B0 from Blk.of rr y1 (fun j hj => lay_in0 _ _ _ hj))
    have BR4 := Lib.hid (BR.out.grown gr4 (by simp; omega))
    have G4 := Lib.hid (grown_new G3.out gr4 lo2)
    have Y1 := Lib.hid y1
    have Y2 := Lib.hid y2
    have Y3 := Lib.hid y3
    have L4 := Lib.hid (show gr < w4.heap.size ∧ gb < w4.heap.size by omega)
    clear y1 y2 y3 rr gr4 sr4 sr3
    have NF := norm_facts Hbl.out (by omega) Ab.out (by have := Htp.out; rw [Hbl.out] at this; exact this) S3.out S4.out hs2 Y1.out Y3.out Y2.out
    obtain ⟨nf1, nf2, nf3, nf4⟩ := NF
    have hD0 : 0 < val 4294967296 (B0.take n) := by
      rw [nf1]
      exact Nat.mul_pos (Nat.lt_of_lt_of_le (Nat.pow_pos (by omega)) nf4) Hp0.out
    have hst : val 4294967296 R0 < val 4294967296 (B0.take n) * 4294967296 ^ (la - n + 1) := by
      rw [Z3.out, nf1]
      have l1 := val_lt Aa.out
      rw [Hal.out] at l1
      have h5 := Nat.mul_lt_mul_of_pos_right l1 Hp0.out
      have h6 := Nat.mul_le_mul_right (2 ^ s * 4294967296 ^ (la - n + 1)) nf4
      rw [Nat.mul_left_comm, ← Nat.pow_add, show n - 1 + (la - n + 1) = la by omega, Nat.mul_comm (2 ^ s), ← Nat.mul_assoc] at h6
      omega
    have Dl := Lib.hid (show val 4294967296 (B0.take n) < 4294967296 ^ n by rw [nf1]; exact nf2)
    have DP := Lib.hid hD0
    have NF1 := Lib.hid nf1
    have NF3 := Lib.hid nf3
    have HSt := Lib.hid hst
    clear nf1 nf2 nf3 nf4 hD0 hst
    have hqn : (la : Int) - (n : Int) + 1 = ((la - n + 1 : Nat) : Int) := by omega
    have Hqn := Lib.hid hqn
    clear hqn
    go_wp2_with (at_make; refine wp_make rfl _ _ 22 rfl 65 i0 (.int .u32 0) Try.underlying22 hi hz0 hz1 (by omega) rfl _ _ _ _ (la - n + 1) (la - n + 1) rfl rfl Hqn.out Hqn.out (Nat.le_refl _) (by omega) ?_; intro w5 r5 g5 s5; have R5 := Lib.hid r5; have G5 := Lib.hid g5; clear r5 g5)
    obtain ⟨gq, egq⟩ : ∃ gq, w4.heap.size = gq := ⟨_, rfl⟩
    have bq := R5.out
    rw [egq] at bq
    have lq : gr < gq ∧ gb < gq ∧ gq < w5.heap.size := by have := L4.out; omega
    obtain ⟨lq1, lq2, lq3⟩ := lq
    have G5w := Lib.hid (grown_trans G4.out G5.out)
    have start := DivInv.start (n := n) (BR4.out.grown G5.out (by simp)) (BB.out.grown G5.out (by simp)) bq Z1.out Z2.out HSt.out G5w.out
    have Start := Lib.hid start
    rw [egq]
    have hlan : ((la - n : Nat) : Int) = ((la - n + 1 : Nat) : Int) - 1 := by omega
    have Hlan := Lib.hid hlan
    have blt : n ≤ la := hla
    clear start bq hlan egq R5 s5 BR BR4 RB BB L4 R1 R2
    go_loopw [10] (fun i wr => ∃ (k : Nat) (q : Int) (R Q : List Nat), i = .int .i64 q ∧ q = (k : Int) - 1 ∧ k ≤ la - n + 1 ∧ gq < wr.heap.size ∧ Hid (DivInv w wr gr gb gq la n k (val 4294967296 R0) (val 4294967296 (B0.take n)) B0 R Q)) (fun i _ => (intOf i + 1).toNat)
    case atStart => exact ⟨la - n + 1, _, R0, _, rfl, Hlan.out, by omega, lq3, Start.out⟩
    case round =>
      obtain ⟨k, q, R, Q, rfl, hq, hk, hsz, inv⟩ := hrel
      clear Start HSt
      cases k with
      | zero =>
        obtain rfl : q = -1 := by omega
        clear hq hk
        go_wp2_with (at_make; refine wp_make rfl _ _ 22 rfl 65 i0 (.int .u32 0) Try.underlying22 hi hz0 hz1 (by omega) rfl _ _ _ _ n n rfl rfl rfl rfl (Nat.le_refl _) (by omega) ?_; intro w6 r6 g6 s6; have R6 := Lib.hid r6; have G6 := Lib.hid g6; clear r6 g6)
        have inv6 := inv.out
        have hsl := ((inv6.r.grown G6.out (by simp)).sl 0 n (la + 1) (by rw [inv6.rl]; omega) (by omega) (by omega))
        rw [List.drop_zero] at hsl
        have Hsl := Lib.hid hsl
        have Fn := Lib.hid (NF1.out ▸ Z3.out ▸ inv6 : DivInv w wr gr gb gq la n 0 (val 4294967296 a * 2 ^ s) (val 4294967296 b * 2 ^ s) B0 R Q)
        have Fe := Lib.hid (Fn.out.end_ (by rw [← NF1.out]; exact Dl.out) hla)
        have Rt := Lib.hid (show (R.take n).length = n by rw [List.length_take, inv6.rl]; omega)
        clear inv6 hsl
        refine (shiftDown_any wr.heap.size 0 n n s n _ _ (R.take n) w6 R6.out (by omega) hs2 (fun j _ => ⟨0, rfl⟩) Hsl.out ?_ Rt.out (inv.out.ar.take _)).mono ?_
        · intro _ e
          have := inv.out.r.lt
          simp [Value.ownBlock] at e
          omega
        intro e w7 hwr
        obtain ⟨Zr, x1, x2, x3, rfl, rr7, gr7, sr7⟩ := hwr
        have G7 := Lib.hid (grown_new (grown_trans inv.out.grown G6.out) gr7 (by have := inv.out.grown.size; omega))
        have Oq := Lib.hid (((inv.out.q.grown G6.out (by simp)).grown gr7 (by simp; omega)).own (B := w.heap.size) (by omega) inv.out.ql (by omega))
        have Or := Lib.hid (show Own w7 65 .u32 w.heap.size (.slice (some ⟨wr.heap.size, 0, none⟩) n n) Zr from
          .inr ⟨wr.heap.size, n, _, by rw [x1], by have := inv.out.grown.size; omega, rr7, by omega, by omega, fun j hj => lay_in0 _ _ _ (by omega)⟩)
        have X2 := Lib.hid x2
        have X3 := Lib.hid x3
        clear x1 x2 x3 rr7 gr7 sr7
        go_wp2_with fail
        refine (trim_any _ _ _ Q _ Oq.out.sl).mono ?_
        rintro e w8 ⟨rfl, rfl⟩
        go_wp2_with fail
        refine (trim_any _ _ _ Zr _ Or.out.sl).mono ?_
        rintro e w8 ⟨rfl, rfl⟩
        go_wp2_with fail
        go_ret2
        refine ⟨_, _, rfl, ?_, ?_, ?_, G7.out⟩
        · rw [Fe.out.1, ← trim_eq (by omega) inv.out.aq]
          exact Oq.out.trim
        · rw [Fe.out.2, ← X3.out, ← trim_eq (by omega) X2.out]
          exact Or.out.trim
        · simp [Value.ownBlock]; omega
      | succ k =>
        obtain rfl : q = (k : Int) := by omega
        clear hq
        have j1 : (k : Int) ≤ (k : Int) + (n : Int) + 1 := by omega
        have j2 : (k : Int) + (n : Int) + 1 ≤ (la : Int) + 1 := by omega
        have j3 : k ≤ k + n + 1 := by omega
        have j4 : k + n + 1 ≤ la + 1 := by omega
        have j5 : ¬ la + 1 = k := by omega
        have j6 : (k : Int) < ((la - n + 1 : Nat) : Int) := by omega
        go_wp2_with fail
        rw [show k + n + 1 - k = n + 1 by omega]
        have pl : ((R.drop k).take (n + 1)).length = n + 1 := by rw [List.length_take, List.length_drop, inv.out.rl]; omega
        have bl2 : (B0.take n).length = n := by rw [List.length_take, Y1.out]; omega
        have Pv := Lib.hid (piece_val (n := n) (by omega) (by rw [inv.out.rl]; omega) Dl.out inv.out.lt)
        have Ap := Lib.hid (show All 4294967296 ((R.drop k).take (n + 1)) from (inv.out.ar.drop _).take _)
        have Abt := Lib.hid (show All 4294967296 (B0.take n) from Y2.out.take _)
        have Pl := Lib.hid pl
        have Bl2 := Lib.hid bl2
        clear pl bl2
        refine (guess_any hn (by omega) Pl.out Bl2.out Ap.out Abt.out (fun j hj => ?_) (fun j hj => ?_) NF3.out Pv.out.2.1).mono ?_
        · rw [nth_take _ hj, nth_drop]; exact inv.out.r.cell (by rw [inv.out.rl]; omega)
        · rw [Nat.zero_add, nth_take _ hj]; exact inv.out.b.cell (by rw [Y1.out]; omega)
        rintro e w6 ⟨q0, rfl, ge, le, q0lt, dn, rfl⟩
        have c2 : (wr.drewN dn).cell? ⟨gq, k, none⟩ = some (.int .u32 (nth Q k)) := inv.out.q.cell (by rw [inv.out.ql]; omega)
        have f2 : (wr.drewN dn).frozen? ⟨gq, k, none⟩ = false := RowF.frozen inv.out.q k
        have Ge := Lib.hid ge
        have Le := Lib.hid le
        have Bq7 := Lib.hid (show Blk ((wr.drewN dn).setCell ⟨gq, k, none⟩ (.int .u32 q0)) gq (Q.set k q0) from Blk.set (w := wr.drewN dn) inv.out.q (by rw [inv.out.ql]; omega) rfl)
        have Br7 := Lib.hid (show Blk ((wr.drewN dn).setCell ⟨gq, k, none⟩ (.int .u32 q0)) gr R from (Blk.grown (w' := wr.drewN dn) inv.out.r (grown_drewN _ _ none) (by simp)).grown (grown_set _ _ _ _) (by simp; omega))
        have Bb7 := Lib.hid (show Blk ((wr.drewN dn).setCell ⟨gq, k, none⟩ (.int .u32 q0)) gb B0 from (Blk.grown (w' := wr.drewN dn) inv.out.b (grown_drewN _ _ none) (by simp)).grown (grown_set _ _ _ _) (by simp; omega))
        have G7 := Lib.hid (show w.grownBy ((wr.drewN dn).setCell ⟨gq, k, none⟩ (.int .u32 q0)) none from grown_new (grown_trans inv.out.grown (grown_drewN _ _ none)) (grown_set _ _ _ _) (by omega))
        have s7 : gq < ((wr.drewN dn).setCell ⟨gq, k, none⟩ (.int .u32 q0)).heap.size := by simpa using hsz
        have S7 := Lib.hid s7
        clear ge le s7
        go_wp2_with fail
        generalize (wr.drewN dn).setCell ⟨gq, k, none⟩ (.int .u32 q0) = w7 at *
        have Sb7 := Lib.hid (show Sl w7 .u32 (.slice (some ⟨gb, 0, none⟩) n (n + 1)) (B0.take n) by
          have := Bb7.out.sl 0 n (n + 1) (by rw [Y1.out]; omega) (by omega) (by omega)
          rwa [List.drop_zero] at this)
        refine (mulSub_any gr k R.length (la + 1 - k) n q0 _ _ ((R.drop k).take (n + 1)) (B0.take n) w7 Br7.out (by rw [inv.out.rl]; omega) q0lt (fun j hj => by rw [nth_take _ hj, nth_drop]) Pl.out Ap.out Sb7.out ?_ Bl2.out Abt.out).mono ?_
        · intro _ e
          simp [Value.ownBlock] at e
          omega
        intro e w8 hms
        obtain ⟨Z, short, zl, az, rfl, rr8, gr8, sr8, hv⟩ := hms
        have Br8 := Lib.hid (Blk.over rfl rr8 zl (by rw [inv.out.rl]; omega))
        have Bq8 := Lib.hid (Bq7.out.grown gr8 (by simp; omega))
        have Bb8 := Lib.hid (Bb7.out.grown gr8 (by simp; omega))
        have G8 := Lib.hid (grown_new G7.out gr8 (by omega))
        have Zl := Lib.hid zl
        have Az := Lib.hid az
        have Hv := Lib.hid hv
        have S8 := Lib.hid (show gq < w8.heap.size by rw [sr8]; exact S7.out)
        clear zl az hv rr8 gr8 sr8
        cases short with
        | false =>
          have nm := Lib.hid (nomend DP.out Ge.out (by have := Hv.out; simpa using this))
          go_wp2_with fail
          go_roundw
          case rel =>
            refine ⟨k, _, over R Z k, Q.set k q0, rfl, rfl, by omega, S8.out, ?_⟩
            have q1 := nm.out.1
            subst q1
            exact inv.out.next DP.out Dl.out (by omega) Zl.out Az.out nm.out.2 Br8.out Bb8.out Bq8.out G8.out
          case measure => simp [intOf]
        | true =>
          have hshort := Lib.hid (show val 4294967296 ((R.drop k).take (n + 1)) < q0 * val 4294967296 (B0.take n) by
            have h := Hv.out
            have l := val_lt Az.out
            rw [Zl.out] at l
            simp only [if_true] at h
            omega)
          have q01 : 1 ≤ q0 := Nat.pos_of_ne_zero (fun h => by have := hshort.out; rw [h, Nat.zero_mul] at this; omega)
          have c8 : w8.cell? ⟨gq, k, none⟩ = some (.int .u32 q0) := by
            rw [Bq8.out.cell (by rw [List.length_set, inv.out.ql]; omega), nth_set_at _ (by rw [inv.out.ql]; omega)]
          have f8 : w8.frozen? ⟨gq, k, none⟩ = false := RowF.frozen Bq8.out k
          have Bq9 := Lib.hid (show Blk (w8.setCell ⟨gq, k, none⟩ (.int .u32 ((q0 : Int) - 1))) gq ((Q.set k q0).set k (q0 - 1)) from Blk.set Bq8.out (by rw [List.length_set, inv.out.ql]; omega) (int_eq (by omega)))
          have Br9 := Lib.hid (show Blk (w8.setCell ⟨gq, k, none⟩ (.int .u32 ((q0 : Int) - 1))) gr (over R Z k) from Br8.out.grown (grown_set _ _ _ _) (by simp; omega))
          have Bb9 := Lib.hid (show Blk (w8.setCell ⟨gq, k, none⟩ (.int .u32 ((q0 : Int) - 1))) gb B0 from Bb8.out.grown (grown_set _ _ _ _) (by simp; omega))
          have G9 := Lib.hid (show w.grownBy (w8.setCell ⟨gq, k, none⟩ (.int .u32 ((q0 : Int) - 1))) none from grown_new G8.out (grown_set _ _ _ _) (by omega))
          have S9 := Lib.hid (show gq < (w8.setCell ⟨gq, k, none⟩ (.int .u32 ((q0 : Int) - 1))).heap.size by simpa using S8.out)
          go_wp2_with fail
          generalize w8.setCell ⟨gq, k, none⟩ (.int .u32 ((q0 : Int) - 1)) = w9 at *
          have Sb9 := Lib.hid (show Sl w9 .u32 (.slice (some ⟨gb, 0, none⟩) n (n + 1)) (B0.take n) by
            have := Bb9.out.sl 0 n (n + 1) (by rw [Y1.out]; omega) (by omega) (by omega)
            rwa [List.drop_zero] at this)
          have hRl : Hid (k + Z.length ≤ R.length) := by show k + Z.length ≤ R.length; rw [Zl.out, inv.out.rl]; omega
          refine (addBack_any gr k (over R Z k).length (la + 1 - k) n _ _ Z (B0.take n) w9 Br9.out (by rw [over_len hRl.out, inv.out.rl]; omega) (fun j hj => by rw [over_in hRl.out (by rw [Zl.out]; exact hj)]) Zl.out Az.out Sb9.out ?_ Bl2.out Abt.out).mono ?_
          · intro _ e
            simp [Value.ownBlock] at e
            omega
          intro e w10 hab
          obtain ⟨Z2, cc, zl2, az2, rfl, rr10, gr10, sr10, hv2⟩ := hab
          have Br10 := Lib.hid (Blk.over rfl rr10 zl2 (by rw [over_len hRl.out, inv.out.rl]; omega))
          have Bq10 := Lib.hid (Bq9.out.grown gr10 (by simp; omega))
          have Bb10 := Lib.hid (Bb9.out.grown gr10 (by simp; omega))
          have G10 := Lib.hid (grown_new G9.out gr10 (by omega))
          have Zl2 := Lib.hid zl2
          have Az2 := Lib.hid az2
          have Hv2 := Lib.hid hv2
          have S10 := Lib.hid (show gq < w10.heap.size by rw [sr10]; exact S9.out)
          clear zl2 az2 hv2 rr10 gr10 sr10
          have md := Lib.hid (mend DP.out Le.out hshort.out (by have := Hv.out; simpa using this) Hv2.out (by have l := val_lt Az2.out; rwa [Zl2.out] at l) (by
            have := Dl.out
            have h2 : (4294967296 : Nat) ^ n ≤ 4294967296 ^ (n + 1) := Nat.pow_le_pow_right (by omega) (by omega)
            omega))
          go_wp2_with fail
          go_roundw
          case rel =>
            refine ⟨k, _, over R Z2 k, Q.set k (q0 - 1), rfl, rfl, by omega, S10.out, ?_⟩
            have q1 := md.out.1
            have br := Br10.out
            rw [over_over hRl.out (by rw [Zl2.out, Zl.out])] at br
            have bq := Bq10.out
            rw [List.set_set] at bq
            rw [q1] at bq ⊢
            exact inv.out.next DP.out Dl.out (by omega) Zl2.out Az2.out md.out.2 br Bb10.out bq G10.out
          case measure => simp [intOf]

end Go.Proofs.Ytmmmpdpgkjcohaa
