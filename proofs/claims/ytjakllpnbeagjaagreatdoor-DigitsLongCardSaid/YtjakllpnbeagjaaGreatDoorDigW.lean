/- Package digits: written, Text. -/
import Derived.Test.YtjakllpnbeagjaaGreatDoorDigR
import Derived.Test.YtjakllpnbeagjaaGreatDoorDigM
import Derived.Test.YtjakllpnbeagjaaGreatDoorShlf
import Derived.Laws.BytesArg
import Derived.Lib.Bytes
namespace Go.Proofs.YtjakllpnbeagjaaGreatDoor
open Go.RowKit

set_option maxHeartbeats 1000000 in
set_option maxRecDepth 100000 in
theorem TrimRight_any {w : World} {p : Option Addr} {n cap : Nat} {xs : List Nat} (h : Sl w .u8 (.slice p n cap) xs) :
    Calls Tryz.prog 72 #[.slice p n cap, .string ⟨#[48]⟩] w fun e w' => e = .returned (.slice p (cutZ xs xs.length) cap) ∧ w = w' := by
  have hn : n = xs.length := by
    obtain ⟨p', cap', e, -⟩ := h
    simp only [Value.slice.injEq] at e
    exact e.2.1
  have H := Lib.hid h
  have Hn := Lib.hid hn
  clear h hn
  by_cases h0 : n = 0
  · subst h0
    go_enter Tryz.func72, Tryz.ntmps72
    go_wp2_with fail
    go_ret
    exact ⟨by rw [← Hn.out]; rfl, rfl⟩
  · have hb : (((n : Nat) : Int) == 0) = false := by simp; omega
    go_enter Tryz.func72, Tryz.ntmps72
    go_wp2_with fail
    refine (trimB H.out).mono ?_
    rintro e w2 ⟨rfl, rfl⟩
    go_wp2_with fail
    go_ret
    exact ⟨rfl, rfl⟩
theorem nth_chB {ds : List Nat} {j : Nat} (h : j < ds.length) : nth (chB ds) j = 48 + nth ds j := by
  simp [nth, chB, List.getD, h]
theorem cutZ_chB (ds : List Nat) : ∀ {k : Nat}, k ≤ ds.length → cutZ (chB ds) k = trimTo ds k
  | 0, _ => rfl
  | k + 1, h => by
    have ih := cutZ_chB ds (k := k) (by omega)
    have h2 := nth_chB (ds := ds) (j := k) (by omega)
    by_cases h0 : nth ds k = 0
    · simp [cutZ, trimTo, h0, h2, ih]
    · simp [cutZ, trimTo, h0, h2]
theorem trim_take (ds : List Nat) : trim ds = ds.take (trimTo ds ds.length) := rfl
theorem OwnB.take {w : World} {B : Nat} {p : Option Addr} {n cap : Nat} {xs : List Nat} (h : OwnB w B (.slice p n cap) xs) {k : Nat} (hk : k ≤ n) : OwnB w B (.slice p k cap) (xs.take k) := by
  obtain ⟨⟨h0, h1⟩, h2⟩ := h
  refine ⟨?_, fun g cur e q hg => h2 g cur e q (by cases p; exact absurd hg (by simp [Value.ownBlock]); exact hg)⟩
  have hx : xs.length = n := by
    rcases h1 with ⟨e, h1⟩ | ⟨g, cap', cur, e, -⟩
    · simp only [Value.slice.injEq] at e; omega
    · simp only [Value.slice.injEq] at e; exact e.2.1.symm
  have hl : (xs.take k).length = k := by rw [List.length_take]; omega
  refine ⟨by rw [vals_len, hl]; omega, ?_⟩
  rcases h1 with ⟨e, h1⟩ | ⟨g, cap', cur, e, a1, a2, a3, a4, a5, a6⟩
  · simp only [Value.slice.injEq] at e
    obtain ⟨rfl, rfl, rfl⟩ := e
    exact .inl ⟨by simp; omega, by omega⟩
  · simp only [Value.slice.injEq] at e
    obtain ⟨rfl, e2, rfl⟩ := e
    refine .inr ⟨g, cap, cur, by rw [hl], a1, a2, by omega, a4, a5, ?_⟩
    rw [hl]
    have : vals .u8 (xs.take k) = (vals .u8 xs).take k := by simp [vals, List.map_take]
    rw [this, ← a6, List.take_take]
    congr 1
    omega
theorem getD_map_int (xs : List Nat) (j : Nat) : (xs.map Int.ofNat).getD j 0 = (nth xs j : Int) := by
  simp only [nth, List.getD_eq_getElem?_getD, List.getElem?_map]
  cases xs[j]? <;> rfl
/-- The library's Reverse over bytes of the call's own. -/
theorem Reverse_b {w : World} {B : Nat} {p : Option Addr} {n cap : Nat} {xs : List Nat} (h : OwnB w B (.slice p n cap) xs) (hne : xs ≠ []) :
    Calls Tryz.prog 74 #[.slice p n cap] w fun e w' => e = .returned (.tuple #[]) ∧ Sl w' .u8 (.slice p n cap) xs.reverse ∧ w.grownBy w' (Value.slice p n cap).ownBlock := by
  have ho := h.own
  rcases ho with ⟨e, h1⟩ | ⟨g, cap', c, e, a1, a2, a3, a4, a5⟩
  · exact absurd h1 hne
  simp only [Value.slice.injEq] at e
  obtain ⟨rfl, rfl, rfl⟩ := e
  have hH : Go.Sort.Holds (Value.int .u8) w g 0 (xs.map Int.ofNat).toArray := fun j hj => by
    have hj' : j < xs.length := by simpa using hj
    rw [Nat.zero_add]
    refine ⟨?_, a2.frozen j⟩
    rw [a2.cell (by omega), a5 j hj']
    simp [hj', nth, List.getD]
  have hc := Tryz.slices_Reverse g 0 cap (xs.map Int.ofNat) w hH (by simp; omega)
  rw [List.length_map] at hc
  refine hc.mono fun e w' h => ?_
  obtain ⟨rfl, m, rfl⟩ := h
  refine ⟨rfl, ⟨_, cap, by rw [List.length_reverse], by rw [List.length_reverse]; exact a3, a4, .inr ⟨g, 0, rfl, ?_, fun j hj => ?_⟩⟩, ?_⟩
  · rw [Go.Sort.size_putRow]; exact a2.lt
  · have hj' : j < xs.length := by simpa using hj
    rw [Go.Sort.cell?_putRow (Value.int .u8) (Go.Sort.ahead w m) g 0 (xs.map Int.ofNat).toArray _ hH (by simp) j (by simpa using hj')]
    have : (xs.map Int.ofNat).reverse.toArray[j]! = (nth xs.reverse j : Int) := by
      rw [← List.map_reverse]
      simp [hj', nth, List.getD]
    rw [this]
  · refine ⟨rfl, rfl, rfl, by rw [Go.Sort.size_putRow]; exact Nat.le_refl _, fun i hi hne => ?_⟩
    have hgi : g ≠ i := fun e => hne (by rw [e]; rfl)
    show (Go.Sort.putRow (Value.int .u8) (Go.Sort.ahead w m) g 0 _).heap[i]? = w.heap[i]?
    simp [Go.Sort.putRow, Go.Sort.mapBlock, Array.getElem?_modify, hgi, Go.Sort.ahead]
/-- Bytes as a string. -/
def bstr (xs : List Nat) : ByteArray := strOfNums (xs.map Int.ofNat)
theorem conv_b {w : World} {p : Option Addr} {n cap : Nat} {xs : List Nat} (h : Sl w .u8 (.slice p n cap) xs) (hne : xs ≠ []) : (convert 55 9 (.slice p n cap)).run Tryz.prog w = .ok (.string (bstr xs)) w := by
  obtain ⟨p', cap', e, h1, h2, h3⟩ := h
  simp only [Value.slice.injEq] at e
  obtain ⟨rfl, rfl, rfl⟩ := e
  rcases h3 with h3 | ⟨b, off, rfl, hb, h5⟩
  · exact absurd h3 hne
  exact run_convert_bytes_arg w 55 5 Tryz.underlying55 Tryz.underlying5 b off xs.length cap (xs.map Int.ofNat) (by simp) (fun i hi => by rw [h5 i hi, getD_map_int]) 9 Tryz.underlying9
theorem bstr_list (xs : List Nat) : (bstr xs).data.toList = xs.map UInt8.ofNat := by
  have h := Lib.strOfNums_toList (xs.map Int.ofNat)
  rw [Lib.toList_data] at h
  rw [bstr, h]
  simp [Lib.bytesOf]
theorem str_ext {a b : ByteArray} (h : a.data.toList = b.data.toList) : a = b := by
  obtain ⟨⟨a⟩⟩ := a
  obtain ⟨⟨b⟩⟩ := b
  simp only at h
  rw [h]
def txtS (z : Int) : ByteArray := ⟨(txt z).toArray⟩
theorem chB_chrs (ds : List Nat) : (chB ds).map UInt8.ofNat = chrs ds := by simp [chB, chrs]
theorem bstr_pos {X : Nat} {z : Int} (h0 : X ≠ 0) (hz : z = (X : Int)) : bstr (chB (dig 10 X)).reverse = txtS z := by
  apply str_ext
  rw [bstr_list, List.map_reverse, chB_chrs]
  subst hz
  show _ = txt (X : Int)
  rw [txt, if_neg (by omega), Int.natAbs_natCast, digT, if_neg h0]
  simp [chrs, List.map_reverse]
theorem bstr_neg {X : Nat} {z : Int} (h0 : X ≠ 0) (hz : z = -(X : Int)) : bstr (chB (dig 10 X) ++ [45]).reverse = txtS z := by
  apply str_ext
  rw [bstr_list, List.map_reverse, List.map_append, chB_chrs]
  subst hz
  show _ = txt (-(X : Int))
  rw [txt, if_pos (by omega), Int.natAbs_neg, Int.natAbs_natCast, digT, if_neg h0]
  simp [chrs, List.map_reverse]
set_option maxHeartbeats 4000000 in
set_option maxRecDepth 100000 in
theorem written_any {w : World} {v : Value} {X k : Nat} {neg : Bool} (hx : Num w v X k) (hk : k ≤ 1000) :
    Calls Tryz.prog 44 #[.bool neg, v] w fun e w' => e = .returned (.string (txtS (sg neg X))) ∧ w.grownBy w' none := by
  obtain ⟨pv, nv, cv, rfl⟩ := hx.slice
  have Hx := Lib.hid hx
  clear hx
  go_enter Tryz.func44, Tryz.ntmps44
  go_wp2_with fail
  with_reducible refine (reversed_any Hx.out hk).mono ?_
  rintro e w1 ⟨v1, ds, rfl, ho, ha, hv, hl, g⟩
  obtain ⟨p, cap, rfl⟩ := ho.slice
  have G := Lib.hid g
  have lg := g.size
  have HT := Lib.hid (ho.take (k := cutZ (chB ds) (chB ds).length) (cutZ_le _ _))
  have Hs := Lib.hid ho.own.sl
  have Hc : Hid ((chB ds).take (cutZ (chB ds) (chB ds).length) = chB (dig 10 X)) := by
    rw [chB_len, cutZ_chB ds (Nat.le_refl _), ← hv, ← trim_eq (by omega) ha, trim_take]
    exact Lib.hid (by simp [chB, List.map_take])
  have Hn : Hid (cutZ (chB ds) (chB ds).length = (dig 10 X).length) := by
    rw [chB_len, cutZ_chB ds (Nat.le_refl _), ← trim_len, trim_eq (by omega) ha, hv]
    exact Lib.hid rfl
  rw [Hc.out, Hn.out] at HT
  have hl2 : (dig 10 X).length ≤ 20000 := by rw [← Hn.out]; have := cutZ_le (chB ds) (chB ds).length; rw [chB_len] at this ⊢; omega
  clear ho g ha hv hl Hc
  go_wp2_with fail
  with_reducible refine (TrimRight_any Hs.out).mono ?_
  rintro e w2 ⟨rfl, rfl⟩
  rw [Hn.out]
  clear Hn Hs
  obtain ⟨n, hn⟩ : ∃ n, (dig 10 X).length = n := ⟨_, rfl⟩
  have Hl := Lib.hid hn
  rw [hn] at HT hl2 ⊢
  have hX0 : n = 0 ↔ X = 0 := by rw [← hn]; exact dig_len_zero (by omega)
  have HX := Lib.hid hX0
  clear hn hX0
  by_cases h0 : n = 0
  · have HZ : Hid (X = 0) := Lib.hid (HX.out.1 h0)
    subst h0
    go_wp2_with fail
    go_ret
    refine ⟨?_, G.out⟩
    rw [HZ.out]
    cases neg <;> rfl
  · have hb : (((n : Nat) : Int) == 0) = false := by simp; omega
    have HZ : Hid (X ≠ 0) := Lib.hid (fun e => h0 (HX.out.2 e))
    have hne : chB (dig 10 X) ≠ [] := fun e => by
      have := congrArg List.length e
      rw [chB_len, Hl.out] at this
      exact h0 (by simpa using this)
    have Hne := Lib.hid hne
    clear hne
    cases neg
    · go_wp2_with fail
      with_reducible refine (Reverse_b HT.out Hne.out).mono ?_
      rintro e w3 ⟨rfl, hs, g⟩
      have hcv := conv_b hs (by simpa using Hne.out)
      rw [bstr_pos HZ.out (z := sg false X) (by simp [sg])] at hcv
      have G3 : Hid (w.grownBy w3 none) := by
        rcases HT.out.1.2 with ⟨e, -⟩ | ⟨gg, cc, cur, e, hb', -⟩
        · rw [e] at g; exact Lib.hid (grown_trans G.out g)
        · rw [e] at g; exact Lib.hid (grown_new G.out g hb')
      clear hs g
      go_wp2_with fail
      go_ret
      exact ⟨rfl, G3.out⟩
    · go_wp2_with (at_builtin; refine wp_append_b rfl _ _ rfl w.heap.size (.slice p n cap) (chB (dig 10 X)) rfl (HT.out.grown (grown_alloc _ _ none) (.inl rfl)) 45 w1.heap.size rfl ?c1 (by simp; omega) (by rw [chB_len, Hl.out]; omega) ?_; (case c1 => exact (World.cell?_alloc_at _ _ _ _ rfl).trans (by simp)); intro v' w3 ho3 g3; have Ho3 := Lib.hid ho3; have G3 := Lib.hid g3; clear ho3 g3)
      have HA3 := HT.out.grown (grown_alloc w1 (.cells #[Value.int IntKind.u8 45] 5) none) (.inl rfl)
      have hW : Hid (w.grownBy w3 none) := by
        have g1 := grown_trans G.out (grown_alloc w1 (.cells #[Value.int IntKind.u8 45] 5) none)
        rcases HA3.1.2 with ⟨e, -⟩ | ⟨gg, cc, cur, e, hb', -⟩
        · have g3 := G3.out; rw [e] at g3; exact Lib.hid (grown_trans g1 g3)
        · have g3 := G3.out; rw [e] at g3; exact Lib.hid (grown_new g1 g3 hb')
      obtain ⟨p3, cap3, rfl⟩ := Ho3.out.slice
      obtain ⟨n3, hn3⟩ : ∃ n, (chB (dig 10 X) ++ [45]).length = n := ⟨_, rfl⟩
      have HO3 : Hid (OwnB w3 w.heap.size (.slice p3 n3 cap3) (chB (dig 10 X) ++ [45])) := Lib.hid (hn3 ▸ Ho3.out)
      rw [hn3]
      clear Ho3 hn3 HA3 G3
      go_wp2_with fail
      with_reducible refine (Reverse_b HO3.out (by simp)).mono ?_
      rintro e w4 ⟨rfl, hs, g⟩
      have hcv := conv_b hs (by simp)
      rw [bstr_neg HZ.out (z := sg true X) (by simp [sg])] at hcv
      have G4 : Hid (w.grownBy w4 none) := by
        rcases HO3.out.1.2 with ⟨e, -⟩ | ⟨gg, cc, cur, e, hb', -⟩
        · rw [e] at g; exact Lib.hid (grown_trans hW.out g)
        · rw [e] at g; exact Lib.hid (grown_new hW.out g hb')
      clear hs g
      go_wp2_with fail
      go_ret
      exact ⟨rfl, G4.out⟩
end Go.Proofs.YtjakllpnbeagjaaGreatDoor
