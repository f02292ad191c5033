/- LimbHard holds: for every four numbers and either truth value the law returns true. No condition. -/
import Derived.Test.YtkebkdmdhhpinaaLawDivs
import Derived.Deep.DeepCutAuto
namespace Go.Proofs.Ytkebkdmdhhpinaa.hard
open Go.ChangeShapes Go.WideShapes Go.ChangeAt Go.RowKit

theorem row_sl {w : World} {e : TypeId} {g N : Nat} {A : List Nat} (hl : A.length = N) (h : RowF w e g N (fun x => .int .u32 (nth A x))) (hN : N ≤ 1000) : Sl w .u32 (.slice (some ⟨g, 0, none⟩) N N) A :=
  ⟨_, N, by rw [hl], by omega, by omega, .inr ⟨g, 0, rfl, h.lt, fun j hj => by rw [Nat.zero_add, h.cell (by omega)]⟩⟩
theorem hard_cell (w : World) (v0 v1 v2 v3 v4 : Int) (q : Nat) (hq : q < 5) (h0 : 0 ≤ v0 ∧ v0 < 4294967296) (h1 : 0 ≤ v1 ∧ v1 < 4294967296) (h2 : 0 ≤ v2 ∧ v2 < 4294967296) (h3 : 0 ≤ v3 ∧ v3 < 4294967296) (h4 : 0 ≤ v4 ∧ v4 < 4294967296) :
    ∃ t : Nat, t < 4294967296 ∧ (w.alloc (.cells #[.int .u32 v0, .int .u32 v1, .int .u32 v2, .int .u32 v3, .int .u32 v4] 52)).cell? ⟨w.heap.size, q, none⟩ = some (.int .u32 (t : Int)) := by
  have e : ∀ c : Int, 0 ≤ c ∧ c < 4294967296 → ∃ t : Nat, t < 4294967296 ∧ c = (t : Int) := fun c hc => ⟨c.toNat, by omega, by omega⟩
  have : q = 0 ∨ q = 1 ∨ q = 2 ∨ q = 3 ∨ q = 4 := by omega
  rcases this with rfl | rfl | rfl | rfl | rfl
  · obtain ⟨t, ht, rfl⟩ := e _ h0
    exact ⟨t, ht, (World.cell?_alloc_at _ _ _ _ rfl).trans rfl⟩
  · obtain ⟨t, ht, rfl⟩ := e _ h1
    exact ⟨t, ht, (World.cell?_alloc_at _ _ _ _ rfl).trans rfl⟩
  · obtain ⟨t, ht, rfl⟩ := e _ h2
    exact ⟨t, ht, (World.cell?_alloc_at _ _ _ _ rfl).trans rfl⟩
  · obtain ⟨t, ht, rfl⟩ := e _ h3
    exact ⟨t, ht, (World.cell?_alloc_at _ _ _ _ rfl).trans rfl⟩
  · obtain ⟨t, ht, rfl⟩ := e _ h4
    exact ⟨t, ht, (World.cell?_alloc_at _ _ _ _ rfl).trans rfl⟩

set_option maxHeartbeats 4000000 in
set_option maxRecDepth 100000 in
theorem walk {w : World} (n : Int) (_h1 : -9223372036854775808 ≤ n) (_h2 : n ≤ 9223372036854775807) (m : Int) (_h3 : -9223372036854775808 ≤ m) (_h4 : m ≤ 9223372036854775807) (i : Int) (_h5 : -9223372036854775808 ≤ i) (_h6 : i ≤ 9223372036854775807) (k : Int) (_h7 : -9223372036854775808 ≤ k) (_h8 : k ≤ 9223372036854775807) (top : Bool) :
    Calls Try.prog 9 #[.int .i64 n, .int .i64 m, .int .i64 i, .int .i64 k, .bool top] w (Bool_ w true) := by
  obtain ⟨i0, hi, hz0, hz1, hz2⟩ := info_parts Try.infoU
  go_enter Try.func9, Try.ntmps9
  go_wp2_with fail
  refine (Within_any n 12 _ (by omega) (by omega)).mono ?_
  rintro e w' ⟨a, ha, rfl, rfl⟩
  go_wp2_with fail
  refine (Within_any m 6 _ (by omega) (by omega)).mono ?_
  rintro e w' ⟨b, hb, rfl, rfl⟩
  obtain ⟨N, hN⟩ : ∃ N, 1 + a = N := ⟨_, rfl⟩
  obtain ⟨M, hM⟩ : ∃ M, 1 + b = M := ⟨_, rfl⟩
  have eN : (1 : Int) + (a : Int) = (N : Int) := by omega
  have eM : (1 : Int) + (b : Int) = (M : Int) := by omega
  have eB : (M : Int) - 1 = (b : Int) := by omega
  have mk1 := fun w => mk_eq hi hz0 hz1 hz2 N (by omega) (N : Int) rfl w
  have mk2 := fun w => mk_eq hi hz0 hz1 hz2 M (by omega) (M : Int) rfl w
  go_upto_region 2 with fail
  go_cut [11, 12] (fun av bv wx => ∃ ga gb : Nat, av = .slice (some ⟨ga, 0, none⟩) N N ∧ bv = .slice (some ⟨gb, 0, none⟩) M M ∧
    RowF wx 52 ga N (fun _ => .int .u32 0) ∧ RowF wx 52 gb M (fun _ => .int .u32 0) ∧ w.grownBy wx none ∧ w.heap.size ≤ ga ∧ w.heap.size ≤ gb ∧ ga ≠ gb)
  case first =>
    go_region
    all_goals (go_wp2_with fail; go_meet)
    · obtain ⟨w2, ew, r1, r2, g2, sz2⟩ := two_rows w N M
      rw [ew]
      exact ⟨_, _, rfl, rfl, r1, r2, g2, by omega, by omega, by omega⟩
    · obtain ⟨w2, ew, r2, r1, g2, sz2⟩ := two_rows w M N
      rw [ew]
      exact ⟨_, _, rfl, rfl, r1, r2, g2, by omega, by omega, by omega⟩
  case rest =>
    obtain ⟨ga, gb, rfl, rfl, r1, r2, g2, lo1, lo2, lo3⟩ := hcut
    clear mk1 mk2
    have R1 := Lib.hid r1
    have R2 := Lib.hid r2
    have G := Lib.hid g2
    clear r1 r2 g2
    go_wp2_with fail
    go_loopw [27] (fun iv wr => ∃ (j : Nat) (A B : List Nat), j ≤ N ∧ iv = .int .i64 j ∧ Hid (A.length = N) ∧ Hid (B.length = M) ∧ Hid (All 4294967296 A) ∧ Hid (All 4294967296 B) ∧ Hid (RowF wr 52 ga N (fun x => .int .u32 (nth A x))) ∧ Hid (RowF wr 52 gb M (fun x => .int .u32 (nth B x))) ∧ Hid (w.grownBy wr none)) (fun iv _ => (N - (intOf iv).toNat))
    case atStart => exact ⟨0, List.replicate N 0, List.replicate M 0, by omega, rfl, by show _ = _; simp, by show _ = _; simp, All.rep (by omega) _, All.rep (by omega) _, R1.out.congr fun x hx => by simp [nth, hx], R2.out.congr fun x hx => by simp [nth, hx], G⟩
    case round =>
      obtain ⟨j, A, B, hj, rfl, Al, Bl, Aa, Ab, RA, RB, GG⟩ := hrel
      by_cases hlt : j < N
      · have i1 : (j : Int) < (N : Int) := by omega
        go_wp2_with fail
        refine (Within_any _ 5 _ (by omega) (by omega)).mono ?_
        rintro e w' ⟨q, hq, rfl, rfl⟩
        obtain ⟨t, ht, ct⟩ := hard_cell wr 0 4294967295 2147483648 2147483647 1 q hq (by omega) (by omega) (by omega) (by omega) (by omega)
        have RA2 := Lib.hid (RA.out.alloc (.cells #[.int .u32 0, .int .u32 4294967295, .int .u32 2147483648, .int .u32 2147483647, .int .u32 1] 52))
        have RB2 := Lib.hid (RB.out.alloc (.cells #[.int .u32 0, .int .u32 4294967295, .int .u32 2147483648, .int .u32 2147483647, .int .u32 1] 52))
        have G2 := Lib.hid (grown_trans GG.out (grown_alloc wr (.cells #[.int .u32 0, .int .u32 4294967295, .int .u32 2147483648, .int .u32 2147483647, .int .u32 1] 52) none))
        generalize wr.alloc (.cells #[.int .u32 0, .int .u32 4294967295, .int .u32 2147483648, .int .u32 2147483647, .int .u32 1] 52) = wx at *
        have f1 : wx.frozen? ⟨ga, j, none⟩ = false := RA2.out.frozen j
        have c1 : wx.cell? ⟨ga, j, none⟩ = some (.int .u32 (nth A j)) := RA2.out.cell (by omega)
        have q5 : (q : Int) < 5 := by omega
        go_wp2_with fail
        go_roundw
        case rel =>
          refine ⟨j + 1, A.set j t, B, by omega, by go_num, ?_, ?_, ?_, ?_, ?_, ?_, grown_new G2.out (grown_set _ _ _ _) (by omega)⟩
          · first | exact Al | (show _ = _; rw [List.length_set]; exact Al.out)
          · first | exact Bl | (show _ = _; rw [List.length_set]; exact Bl.out)
          · first | exact Aa | exact Aa.out.set ht j
          · first | exact Ab | exact Ab.out.set ht j
          · first | exact set_row Al.out RA2.out (by omega) rfl | exact RA2.out.set_other (by simp; omega) _
          · first | exact set_row Bl.out RB2.out (by omega) rfl | exact RB2.out.set_other (by simp; omega) _
        case measure => simp [intOf] <;> omega
      · obtain rfl : N = j := by omega
        clear R1 R2 G
        go_wp2_with fail
        go_loopw [45] (fun iv wr => ∃ (j : Nat) (A B : List Nat), j ≤ M ∧ iv = .int .i64 j ∧ Hid (A.length = N) ∧ Hid (B.length = M) ∧ Hid (All 4294967296 A) ∧ Hid (All 4294967296 B) ∧ Hid (RowF wr 52 ga N (fun x => .int .u32 (nth A x))) ∧ Hid (RowF wr 52 gb M (fun x => .int .u32 (nth B x))) ∧ Hid (w.grownBy wr none)) (fun iv _ => (M - (intOf iv).toNat))
        case atStart => exact ⟨0, A, B, by omega, rfl, Al, Bl, Aa, Ab, RA, RB, GG⟩
        case round =>
          obtain ⟨j, A, B, hj, rfl, Al, Bl, Aa, Ab, RA, RB, GG⟩ := hrel
          by_cases hlt : j < M
          · have i1 : (j : Int) < (M : Int) := by omega
            go_wp2_with fail
            refine (Within_any _ 5 _ (by omega) (by omega)).mono ?_
            rintro e w' ⟨q, hq, rfl, rfl⟩
            obtain ⟨t, ht, ct⟩ := hard_cell wr 0 4294967295 1 2147483648 2147483647 q hq (by omega) (by omega) (by omega) (by omega) (by omega)
            have RA2 := Lib.hid (RA.out.alloc (.cells #[.int .u32 0, .int .u32 4294967295, .int .u32 1, .int .u32 2147483648, .int .u32 2147483647] 52))
            have RB2 := Lib.hid (RB.out.alloc (.cells #[.int .u32 0, .int .u32 4294967295, .int .u32 1, .int .u32 2147483648, .int .u32 2147483647] 52))
            have G2 := Lib.hid (grown_trans GG.out (grown_alloc wr (.cells #[.int .u32 0, .int .u32 4294967295, .int .u32 1, .int .u32 2147483648, .int .u32 2147483647] 52) none))
            generalize wr.alloc (.cells #[.int .u32 0, .int .u32 4294967295, .int .u32 1, .int .u32 2147483648, .int .u32 2147483647] 52) = wx at *
            have f1 : wx.frozen? ⟨gb, j, none⟩ = false := RB2.out.frozen j
            have c1 : wx.cell? ⟨gb, j, none⟩ = some (.int .u32 (nth B j)) := RB2.out.cell (by omega)
            have q5 : (q : Int) < 5 := by omega
            go_wp2_with fail
            go_roundw
            case rel =>
              refine ⟨j + 1, A, B.set j t, by omega, by go_num, ?_, ?_, ?_, ?_, ?_, ?_, grown_new G2.out (grown_set _ _ _ _) (by omega)⟩
              · first | exact Al | (show _ = _; rw [List.length_set]; exact Al.out)
              · first | exact Bl | (show _ = _; rw [List.length_set]; exact Bl.out)
              · first | exact Aa | exact Aa.out.set ht j
              · first | exact Ab | exact Ab.out.set ht j
              · first | exact set_row Al.out RA2.out (by omega) rfl | exact RA2.out.set_other (by simp; omega) _
              · first | exact set_row Bl.out RB2.out (by omega) rfl | exact RB2.out.set_other (by simp; omega) _
            case measure => simp [intOf] <;> omega
          · obtain hjM : j = M := by omega
            have i3 : (b : Int) < (M : Int) := by omega
            have f1 : wr.frozen? ⟨gb, b, none⟩ = false := RB.out.frozen b
            have c1 : wr.cell? ⟨gb, b, none⟩ = some (.int .u32 (nth B b)) := RB.out.cell (by omega)
            have RB2 := Lib.hid (set_row (t := 2147483648) (v := .int .u32 2147483648) Bl.out RB.out (show b < M by omega) rfl)
            have RA2 := Lib.hid (RA.out.set_other (a := ⟨gb, b, none⟩) (by simp; omega) (.int .u32 2147483648))
            have G2 := Lib.hid (grown_new GG.out (grown_set wr gb b (.int .u32 2147483648)) (by omega))
            have Bl2 := Lib.hid (show (B.set b 2147483648).length = M by rw [List.length_set, Bl.out])
            have Ab2 := Lib.hid (Ab.out.set (t := 2147483648) (by omega) b)
            cases top
            · go_wp2_with fail
              refine (divs.walk (row_sl Al.out RA2.out (by omega)) Aa.out (row_sl Bl2.out RB2.out (by omega)) Ab2.out).mono ?_
              rintro e w7 ⟨rfl, g⟩
              have K := Lib.hid (grown_trans G2.out g)
              clear g
              go_wp2_with fail
              refine (wakes_true _).mono ?_
              rintro e w8 ⟨rfl, g⟩
              replace K := Lib.hid (grown_trans K.out g)
              clear g
              go_wp2_with fail
              go_ret
              exact ⟨rfl, K.out⟩
            · go_wp2_with fail
              have RB3 := Lib.hid (set_row (t := 4294967295) (v := .int .u32 4294967295) Bl2.out RB2.out (show b < M by omega) rfl)
              have RA3 := Lib.hid (RA2.out.set_other (a := ⟨gb, b, none⟩) (by simp; omega) (.int .u32 4294967295))
              have G3 := Lib.hid (grown_new G2.out (grown_set _ gb b (.int .u32 4294967295)) (by omega))
              have Bl3 := Lib.hid (show ((B.set b 2147483648).set b 4294967295).length = M by rw [List.length_set, Bl2.out])
              have Ab3 := Lib.hid (Ab2.out.set (t := 4294967295) (by omega) b)
              refine (divs.walk (row_sl Al.out RA3.out (by omega)) Aa.out (row_sl Bl3.out RB3.out (by omega)) Ab3.out).mono ?_
              rintro e w7 ⟨rfl, g⟩
              have K := Lib.hid (grown_trans G3.out g)
              clear g
              go_wp2_with fail
              refine (wakes_true _).mono ?_
              rintro e w8 ⟨rfl, g⟩
              replace K := Lib.hid (grown_trans K.out g)
              clear g
              go_wp2_with fail
              go_ret
              exact ⟨rfl, K.out⟩

set_option maxRecDepth 100000 in
theorem lifted (os : Os) (started : os.Started) (H : Type) (enc : TypeId × Value → H) :
    ReturnsInHanded {} Try.checked os 9 .any (Rows.limbHardSpec.pre6 enc Try.prog Try.f9 Rows.limbHardRow.domain false) (Rows.limbHardSpec.post enc Try.prog Try.f9 false true false false) := by
  refine returnsInHanded_of_change (C := Try.checked) Try.own started (by kernel_rfl) Try.func9
    (ChangeSpec.witness6 (enc := enc) (C := Try.checked) false ⟨#[], #[.int .i64 0, .int .i64 0, .int .i64 0, .int .i64 0, .bool false], []⟩ 8 (by kernel_rfl) (by kernel_rfl) (by kernel_rfl) (by kernel_rfl)) ?_
  intro W base args ds gs before hval0 hW _ _
  have hval : ∀ (j : Nat) t v, Try.f9.params[j]? = some t → args[j]? = some v → Value.okWide Try.prog W .any base t v := hval0
  obtain ⟨p, q, hA0, hV, rfl, _, _⟩ := id hW
  have hA : DataW.TrodAll enc Try.prog W 0 (fun _ => true) true Try.f9.params.toList args.toList ds p := hA0
  rw [Try.params9] at hA hval
  obtain ⟨v0, vs0, d0, ds0, p0, q0, hargs, rfl, rfl, h0, r0⟩ := trodAll_cons hA
  obtain ⟨v1, vs1, d1, ds1, p1, q1, rfl, rfl, rfl, h1, r1⟩ := trodAll_cons r0
  obtain ⟨v2, vs2, d2, ds2, p2, q2, rfl, rfl, rfl, h2, r2⟩ := trodAll_cons r1
  obtain ⟨v3, vs3, d3, ds3, p3, q3, rfl, rfl, rfl, h3, r3⟩ := trodAll_cons r2
  obtain ⟨v4, vs4, d4, ds4, p4, q4, rfl, rfl, rfl, h4, r4⟩ := trodAll_cons r3
  obtain ⟨rfl, rfl, rfl⟩ := trodAll_nil r4
  obtain rfl : args = #[v0, v1, v2, v3, v4] := by cases args; simp_all
  obtain ⟨n0, rfl, rfl, rfl, f0⟩ := open_int Try.underlying3 (hval 0 3 v0 rfl rfl) h0
  obtain ⟨n1, rfl, rfl, rfl, f1⟩ := open_int Try.underlying3 (hval 1 3 v1 rfl rfl) h1
  obtain ⟨n2, rfl, rfl, rfl, f2⟩ := open_int Try.underlying3 (hval 2 3 v2 rfl rfl) h2
  obtain ⟨n3, rfl, rfl, rfl, f3⟩ := open_int Try.underlying3 (hval 3 3 v3 rfl rfl) h3
  obtain ⟨n4, rfl, rfl, rfl⟩ := open_bool Try.underlying4 (hval 4 4 v4 rfl rfl) h4
  refine (walk n0 (wf_lo f0) (wf_hi f0) n1 (wf_lo f1) (wf_hi f1) n2 (wf_lo f2) (wf_hi f2) n3 (wf_lo f3) (wf_hi f3) n4).mono fun e W' ⟨he, hg⟩ => ?_
  subst he
  refine ⟨_, rfl, law_post Try.laidOut rfl (by kernel_rfl) Try.underlying4 ?_ ?_ hW hg⟩
  · rw [Try.params9]; decide +kernel
  · rw [Try.params9]
    intro ds h
    match ds, h with
    | [_, _, _, _, _], _ => rfl

theorem holds : Rows.LimbHardSaid :=
  OpenClaim.holds_of_wide 9 Try.f9 rfl rfl rfl rfl rfl rfl rfl ⟨rfl, rfl, rfl, rfl, rfl⟩ rfl rfl rfl rfl rfl (by kernel_rfl) Try.func9 (by kernel_rfl)
    (of_decide_eq_true (by kernel_rfl)) (by unfold Func.isWrapper; first | (rw [if_pos (by decide +kernel)]; kernel_rfl) | (rw [if_neg (by decide +kernel)]; exact ⟨rfl, rfl⟩))
    (fun os started H enc _ => lifted os started H enc)

end Go.Proofs.Ytkebkdmdhhpinaa.hard
