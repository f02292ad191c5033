/- The reference's Parse at every text. -/
import Derived.Test.YtjakllpnbeagjaaGreatDoorSymU
import Derived.Test.YtjakllpnbeagjaaGreatDoorDigP
namespace Go.Proofs.YtjakllpnbeagjaaGreatDoor
theorem decN_step {l : List UInt8} {j : Nat} (hj : j < l.length) : decN 0 (l.take (j + 1)) = decN 0 (l.take j) * 10 + ((l.getD j 0).toNat - 48) := by
  rw [List.take_succ_eq_append_getElem hj, decN_app, show l.getD j 0 = l[j] by simp [List.getD, hj]]
  rfl
theorem sub48 {c : Nat} (h1 : 48 ≤ c) (h2 : c ≤ 57) : IntKind.u8.wrap ((c : Int) - 48) = ((c - 48 : Nat) : Int) := by
  have : IntKind.u8.wrap ((c : Int) - 48) = ((c : Int) - 48) % 256 := by simp [IntKind.wrap, IntKind.signed, IntKind.bits]
  rw [this]; omega
theorem allD_of {l : List UInt8} {n k : Nat} (hd : ∀ i, i < n → 48 ≤ (l.getD i 0).toNat ∧ (l.getD i 0).toNat ≤ 57) (hk : k ≤ n) : allD (l.take k) = true := by
  simp only [allD, List.all_eq_true, Bool.and_eq_true, decide_eq_true_eq]
  intro c hc
  obtain ⟨i, hi, rfl⟩ := List.getElem_of_mem hc
  rw [List.length_take] at hi
  have := hd i (by omega)
  rw [show l.getD i 0 = l[i]'(by omega) by simp [List.getD, show i < l.length by omega]] at this
  rw [List.getElem_take]; exact this
theorem dec_len400 {l : List UInt8} {n j : Nat} (hd : ∀ i, i < n → 48 ≤ (l.getD i 0).toNat ∧ (l.getD i 0).toNat ≤ 57) (hj : j ≤ n) (hn : n ≤ 400) : (dig 10000 (decN 0 (l.take j))).length ≤ 8796093022208 := by
  have h1 := decN_lt _ (allD_of hd hj)
  have h2 := Nat.lt_of_lt_of_le h1 (Nat.pow_le_pow_left (m := 10000) (by omega) _)
  have h3 : (l.take j).length ≤ 400 := by rw [List.length_take]; omega
  exact Nat.le_trans (dig_len_le (by omega) _ _ h2) (by omega)
theorem bd_all400 {l : List UInt8} {n : Nat} (hd : ∀ i, i < n → 48 ≤ (l.getD i 0).toNat ∧ (l.getD i 0).toNat ≤ 57) (hl : n = l.length) (hn : n ≤ 400) : Bd (decN 0 l) 50 := by
  have h := allD_of hd (Nat.le_refl n)
  rw [hl, List.take_length] at h
  exact bd_digits (decN_lt _ h) (by omega)
theorem digs_of {l : List UInt8} (h : allD l = true) {n : Nat} (hn : n = l.length) : ∀ i, i < n → 48 ≤ (l.getD i 0).toNat ∧ (l.getD i 0).toNat ≤ 57 := fun i hi => by
  subst hn
  simp only [allD, List.all_eq_true, Bool.and_eq_true, decide_eq_true_eq] at h
  rw [show l.getD i 0 = l[i] by simp [List.getD, hi]]
  exact h _ (List.getElem_mem hi)
theorem bad_at : ∀ {l : List UInt8}, allD l = false → ∃ b, b < l.length ∧ (∀ i, i < b → 48 ≤ (l.getD i 0).toNat ∧ (l.getD i 0).toNat ≤ 57) ∧ ((l.getD b 0).toNat < 48 ∨ ¬ (l.getD b 0).toNat < 48 ∧ 57 < (l.getD b 0).toNat)
  | [], h => by simp [allD] at h
  | c :: l, h => by
    by_cases hc : 48 ≤ c.toNat ∧ c.toNat ≤ 57
    · have h2 : allD l = false := by simpa [allD, hc.1, hc.2] using h
      obtain ⟨b, h3, h4, h5⟩ := bad_at h2
      refine ⟨b + 1, by simpa using h3, fun i hi => ?_, by simpa using h5⟩
      cases i with
      | zero => simpa using hc
      | succ i => simpa using h4 i (by omega)
    · refine ⟨0, by simp, fun i hi => by omega, ?_⟩
      simp only [List.getD_cons_zero]
      omega
theorem minus_of {s : ByteArray} (h : minusB s.data.toList = true) : 0 < s.size ∧ (s.data.toList.getD 0 0).toNat = 45 ∧ (s.extract 1 s.size).data.toList = unsig s.data.toList := by
  have hl := Lib.size_eq s
  rw [Lib.extract_to_end]
  cases hs : s.data.toList with
  | nil => rw [hs] at h; simp [minusB, Lib.hasPrefix, List.isPrefixOf] at h
  | cons c l =>
    rw [hs] at h hl
    have hc : c = 45 := by
      have : (45 : UInt8) = c := by simpa [minusB, Lib.hasPrefix, List.isPrefixOf] using h
      exact this.symm
    subst hc
    exact ⟨by simp at hl; omega, by simp, by rw [unsig_cons]; rfl⟩
theorem plus_of {s : ByteArray} (h : minusB s.data.toList = false) : unsig s.data.toList = s.data.toList ∧ (s.size = 0 ∨ 0 < s.size ∧ (s.data.toList.getD 0 0).toNat ≠ 45) := by
  have hl := Lib.size_eq s
  have h2 : s.data.toList.head? ≠ some 45 := fun e => by
    cases hs : s.data.toList with
    | nil => rw [hs] at e; cases e
    | cons c l => rw [hs] at e h; simp only [List.head?_cons, Option.some.injEq] at e; subst e; rw [minus_cons] at h; cases h
  refine ⟨unsig_no h2, ?_⟩
  cases hs : s.data.toList with
  | nil => rw [hs] at hl; exact .inl (by simpa using hl)
  | cons c l =>
    rw [hs] at hl h2
    refine .inr ⟨by simp at hl; omega, fun e => h2 ?_⟩
    simp only [List.getD_cons_zero] at e
    simp only [List.head?_cons, Option.some.injEq]
    exact UInt8.toNat_inj.1 e
end Go.Proofs.YtjakllpnbeagjaaGreatDoor
namespace Go.Proofs.YtjakllpnbeagjaaGreatDoor.Sym
open Go.RowKit
theorem tst45 {c : Nat} (h : c = 45) : tstB .eql (c : Int) 45 = true := by subst h; rfl
theorem tst45n {c : Nat} (h : c ≠ 45) : tstB .eql (c : Int) 45 = false := by simp only [tstB, beq_eq_false_iff_ne]; omega
def phi_rp_e1t (s t : ByteArray) : List (World → Value → Prop) := [fun _ v => v = .string s, fun _ v => v = .int .i64 (s.size : Int), fun _ v => v = .int .u8 ((s.data.toList.getD 0 0).toNat : Int), fun _ v => v = .string t, fun _ v => v = .int .i64 (t.size : Int)]
def ins_rp_e1t : List Out := [⟨.one (.t), [(0, 0, 0)]⟩]
def ss_rp_e1t : List Site := [⟨0, [.fact 0], [⟨.one (.i), [(0, 0, 1)]⟩], .quiet (mLen 9)⟩,
      ⟨0, [.fact 1, .lit (.ci .i64 0)], [⟨.one (.lit (.cb true)), []⟩], .quiet (mBin .gtr)⟩,
      ⟨0, [.fact 0, .lit (.ci .i64 0)], [⟨.one (.nk), [(0, 0, 2)]⟩], .quiet (mIndex 9)⟩,
      ⟨0, [.fact 2, .lit (.ci .u8 45)], [⟨.one (.lit (.cb true)), []⟩], .quiet (mBin .eql)⟩,
      ⟨0, [.fact 0, .lit (.ci .i64 1)], [⟨.one (.t), [(0, 0, 3)]⟩], .quiet (mFrom 9)⟩,
      ⟨0, [.fact 3], [⟨.one (.i), [(0, 0, 4)]⟩], .quiet (mLen 9)⟩,
      ⟨0, [.fact 4, .lit (.ci .i64 1)], [⟨.one (.lit (.cb true)), []⟩], .quiet (mBin .lss)⟩]
set_option maxRecDepth 100000 in
theorem rp_e1t {s t : ByteArray} (h0 : 0 < s.size) (hc : (s.data.toList.getD 0 0).toNat = 45) (ht : s.extract 1 s.size = t) (h1 : t.size < 1) : SiteOk (ph (phi_rp_e1t s t)) Tryz.prog ⟨17, [.fact 0], [⟨.agg [.lit (.nl), .lit (.cb false)], []⟩, ⟨.one (.lit (.cb false)), []⟩], true⟩ :=
  fn_ok ins_rp_e1t [⟨.agg [.lit (.nl), .lit (.cb false)], []⟩, ⟨.one (.lit (.cb false)), []⟩] ss_rp_e1t Tryz.func17 (by kernel_rfl)
    (all_cons (qLenS Tryz.underlying9 (fun _ _ h => h) rfl)
      (all_cons (qTestN (op := .gtr) (fun _ _ h => h) (tst_run (decide_eq_true (by omega)) (by simp)))
      (all_cons (qIndexSC 0 rfl Tryz.underlying9 (fun _ _ h => h) (h0) rfl)
      (all_cons (qTestN (op := .eql) (fun _ _ h => h) (tst_run (tst45 hc) (by simp)))
      (all_cons (qFromSC 1 rfl Tryz.underlying9 (fun _ _ h => h) (h0) ht rfl)
      (all_cons (qLenS Tryz.underlying9 (fun _ _ h => h) rfl)
      (all_cons (qTestN (op := .lss) (fun _ _ h => h) (tst_run (decide_eq_true (by omega)) (by simp)))
      all_nil)))))))
    (ins_ok [.fact 0 (.one (.t))] ⟨fun _ _ h => IsT h, trivial⟩) (fun _ _ _ h => h)

def phi_rp_e2t (s t : ByteArray) : List (World → Value → Prop) := [fun _ v => v = .string s, fun _ v => v = .int .i64 (s.size : Int), fun _ v => v = .int .u8 ((s.data.toList.getD 0 0).toNat : Int), fun _ v => v = .string t, fun _ v => v = .int .i64 (t.size : Int), fun _ v => v = .int .i64 (t.size : Int)]
def ins_rp_e2t : List Out := [⟨.one (.t), [(0, 0, 0)]⟩]
def ss_rp_e2t : List Site := [⟨0, [.fact 0], [⟨.one (.i), [(0, 0, 1)]⟩], .quiet (mLen 9)⟩,
      ⟨0, [.fact 1, .lit (.ci .i64 0)], [⟨.one (.lit (.cb true)), []⟩], .quiet (mBin .gtr)⟩,
      ⟨0, [.fact 0, .lit (.ci .i64 0)], [⟨.one (.nk), [(0, 0, 2)]⟩], .quiet (mIndex 9)⟩,
      ⟨0, [.fact 2, .lit (.ci .u8 45)], [⟨.one (.lit (.cb true)), []⟩], .quiet (mBin .eql)⟩,
      ⟨0, [.fact 0, .lit (.ci .i64 1)], [⟨.one (.t), [(0, 0, 3)]⟩], .quiet (mFrom 9)⟩,
      ⟨0, [.fact 3], [⟨.one (.i), [(0, 0, 4)]⟩], .quiet (mLen 9)⟩,
      ⟨0, [.fact 4, .lit (.ci .i64 1)], [⟨.one (.lit (.cb false)), []⟩], .quiet (mBin .lss)⟩,
      ⟨0, [.fact 3], [⟨.one (.i), [(0, 0, 5)]⟩], .quiet (mLen 9)⟩,
      ⟨0, [.fact 5, .lit (.ci .i64 400)], [⟨.one (.lit (.cb true)), []⟩], .quiet (mBin .gtr)⟩]
set_option maxRecDepth 100000 in
theorem rp_e2t {s t : ByteArray} (h0 : 0 < s.size) (hc : (s.data.toList.getD 0 0).toNat = 45) (ht : s.extract 1 s.size = t) (h1 : 400 < t.size) : SiteOk (ph (phi_rp_e2t s t)) Tryz.prog ⟨17, [.fact 0], [⟨.agg [.lit (.nl), .lit (.cb false)], []⟩, ⟨.one (.lit (.cb false)), []⟩], true⟩ :=
  fn_ok ins_rp_e2t [⟨.agg [.lit (.nl), .lit (.cb false)], []⟩, ⟨.one (.lit (.cb false)), []⟩] ss_rp_e2t Tryz.func17 (by kernel_rfl)
    (all_cons (qLenS Tryz.underlying9 (fun _ _ h => h) rfl)
      (all_cons (qTestN (op := .gtr) (fun _ _ h => h) (tst_run (decide_eq_true (by omega)) (by simp)))
      (all_cons (qIndexSC 0 rfl Tryz.underlying9 (fun _ _ h => h) (h0) rfl)
      (all_cons (qTestN (op := .eql) (fun _ _ h => h) (tst_run (tst45 hc) (by simp)))
      (all_cons (qFromSC 1 rfl Tryz.underlying9 (fun _ _ h => h) (h0) ht rfl)
      (all_cons (qLenS Tryz.underlying9 (fun _ _ h => h) rfl)
      (all_cons (qTestN (op := .lss) (fun _ _ h => h) (tst_run (decide_eq_false (by omega)) (by simp)))
      (all_cons (qLenS Tryz.underlying9 (fun _ _ h => h) rfl)
      (all_cons (qTestN (op := .gtr) (fun _ _ h => h) (tst_run (decide_eq_true (by omega)) (by simp)))
      all_nil)))))))))
    (ins_ok [.fact 0 (.one (.t))] ⟨fun _ _ h => IsT h, trivial⟩) (fun _ _ _ h => h)

def b_rp_okt (s t : ByteArray) (z : Int) : List (World → Value → Prop) := [fun _ v => v = .string s, fun _ v => v = .int .i64 (s.size : Int), fun _ v => v = .int .u8 ((s.data.toList.getD 0 0).toNat : Int), fun _ v => v = .string t, fun _ v => v = .int .i64 (t.size : Int), fun _ v => v = .int .i64 (t.size : Int), fun w v => DecS w v (decN 0 t.data.toList), fun w v => DecI w v z 50]
def l_rp_okt (t : ByteArray) (j : Nat) : List (World → Value → Prop) := [fun w v => DecS w v (decN 0 (t.data.toList.take j)), fun _ v => v = .int .i64 (j : Int), fun _ v => v = .int .i64 (t.size : Int), fun _ v => v = .int .u8 ((t.data.toList.getD j 0).toNat : Int), fun _ v => v = .int .u8 ((t.data.toList.getD j 0).toNat : Int), fun _ v => v = .int .u8 ((t.data.toList.getD j 0).toNat : Int), fun _ v => v = .int .u8 (((t.data.toList.getD j 0).toNat - 48 : Nat) : Int), fun _ v => v = .int .i64 (((t.data.toList.getD j 0).toNat - 48 : Nat) : Int), fun w v => DecS w v ((decN 0 (t.data.toList.take j)) * 10 + ((t.data.toList.getD j 0).toNat - 48)), fun _ v => v = .int .i64 ((j : Int) + 1), fun _ v => v = .int .i64 (t.size : Int)]
def d_rp_okt : LoopD := ⟨[0, 2, 3, 4, 7, 8, 9, 10, 11, 12, 13, 14, 15, 16, 17, 18, 19, 20, 21, 22, 23, 24, 25], [(.slot 5, .s), (.slot 6, .i)], [(.one 0, 8), (.one 1, 9)], [.closed (.one (.nl)), .closed (.one (.ci .i64 0))], 8, [(8, 6)]⟩
def r_rp_okt_0 : List Step := [.base ⟨0, [.fact 3], [⟨.one (.i), [(0, 0, 10)]⟩], .quiet (mLen 9)⟩,
      .base ⟨0, [.fact 9, .fact 10], [⟨.one (.lit (.cb true)), []⟩], .quiet (mBin .lss)⟩,
      .base ⟨0, [.fact 3, .fact 9], [⟨.one (.nk), [(0, 0, 11)]⟩], .quiet (mIndex 9)⟩,
      .base ⟨0, [.fact 11, .lit (.ci .u8 48)], [⟨.one (.lit (.cb false)), []⟩], .quiet (mBin .lss)⟩,
      .base ⟨0, [.fact 3, .fact 9], [⟨.one (.nk), [(0, 0, 12)]⟩], .quiet (mIndex 9)⟩,
      .base ⟨0, [.fact 12, .lit (.ci .u8 57)], [⟨.one (.lit (.cb false)), []⟩], .quiet (mBin .gtr)⟩,
      .base ⟨0, [.fact 3, .fact 9], [⟨.one (.nk), [(0, 0, 13)]⟩], .quiet (mIndex 9)⟩,
      .base ⟨0, [.fact 13, .lit (.ci .u8 48)], [⟨.one (.nk), [(0, 0, 14)]⟩], .quiet (mBin .sub)⟩,
      .base ⟨0, [.fact 14], [⟨.one (.i), [(0, 0, 15)]⟩], .quiet (mConv 5 3)⟩,
      .base ⟨52, [.fact 8, .lit (.ci .i64 10), .fact 15], [⟨.one (.s), [(0, 0, 16)]⟩], false⟩,
      .base ⟨0, [.fact 9, .lit (.ci .i64 1)], [⟨.one (.i), [(0, 0, 17)]⟩], .quiet (mBin .add)⟩]
def o_rp_okt : List Step := [.base ⟨0, [.fact 3], [⟨.one (.i), [(0, 0, 18)]⟩], .quiet (mLen 9)⟩,
      .base ⟨0, [.fact 9, .fact 18], [⟨.one (.lit (.cb false)), []⟩], .quiet (mBin .lss)⟩]
def ss_rp_okt : List Step := [.base ⟨0, [.fact 0], [⟨.one (.i), [(0, 0, 1)]⟩], .quiet (mLen 9)⟩,
      .base ⟨0, [.fact 1, .lit (.ci .i64 0)], [⟨.one (.lit (.cb true)), []⟩], .quiet (mBin .gtr)⟩,
      .base ⟨0, [.fact 0, .lit (.ci .i64 0)], [⟨.one (.nk), [(0, 0, 2)]⟩], .quiet (mIndex 9)⟩,
      .base ⟨0, [.fact 2, .lit (.ci .u8 45)], [⟨.one (.lit (.cb true)), []⟩], .quiet (mBin .eql)⟩,
      .base ⟨0, [.fact 0, .lit (.ci .i64 1)], [⟨.one (.t), [(0, 0, 3)]⟩], .quiet (mFrom 9)⟩,
      .base ⟨0, [.fact 3], [⟨.one (.i), [(0, 0, 4)]⟩], .quiet (mLen 9)⟩,
      .base ⟨0, [.fact 4, .lit (.ci .i64 1)], [⟨.one (.lit (.cb false)), []⟩], .quiet (mBin .lss)⟩,
      .base ⟨0, [.fact 3], [⟨.one (.i), [(0, 0, 5)]⟩], .quiet (mLen 9)⟩,
      .base ⟨0, [.fact 5, .lit (.ci .i64 400)], [⟨.one (.lit (.cb false)), []⟩], .quiet (mBin .gtr)⟩,
      .loop d_rp_okt [(r_rp_okt_0, [.from 16, .from 17])] o_rp_okt,
      .base ⟨45, [.fact 6, .lit (.cb true)], [⟨.agg [.s, .b], [(0, 0, 7)]⟩], false⟩]
def ins_rp_okt : List Out := [⟨.one (.t), [(0, 0, 0)]⟩]
set_option maxRecDepth 100000 in
theorem rp_okt {s t : ByteArray} {z : Int} (h0 : 0 < s.size) (hc : (s.data.toList.getD 0 0).toNat = 45) (ht : s.extract 1 s.size = t) (h1 : 1 ≤ t.size) (h400 : t.size ≤ 400) (hd : ∀ j, j < t.size → 48 ≤ (t.data.toList.getD j 0).toNat ∧ (t.data.toList.getD j 0).toNat ≤ 57) (hz : sg true (decN 0 t.data.toList) = z)  : SiteOk (ph (b_rp_okt s t z)) Tryz.prog ⟨17, [.fact 0], [⟨.agg [.s, .b], [(0, 0, 7)]⟩, ⟨.one (.lit (.cb true)), []⟩], true⟩ :=
  fn_okL ins_rp_okt [⟨.agg [.s, .b], [(0, 0, 7)]⟩, ⟨.one (.lit (.cb true)), []⟩] ss_rp_okt Tryz.func17 (by kernel_rfl)
    (lbase (qLenS Tryz.underlying9 (fun _ _ h => h) rfl)
      (lbase (qTestN (op := .gtr) (fun _ _ h => h) (tst_run (decide_eq_true (by omega)) (by simp)))
      (lbase (qIndexSC 0 rfl Tryz.underlying9 (fun _ _ h => h) (h0) rfl)
      (lbase (qTestN (op := .eql) (fun _ _ h => h) (tst_run (tst45 hc) (by simp)))
      (lbase (qFromSC 1 rfl Tryz.underlying9 (fun _ _ h => h) (h0) ht rfl)
      (lbase (qLenS Tryz.underlying9 (fun _ _ h => h) rfl)
      (lbase (qTestN (op := .lss) (fun _ _ h => h) (tst_run (decide_eq_false (by omega)) (by simp)))
      (lbase (qLenS Tryz.underlying9 (fun _ _ h => h) rfl)
      (lbase (qTestN (op := .gtr) (fun _ _ h => h) (tst_run (decide_eq_false (by omega)) (by simp)))
      (lloop (counted t.size (fun j => ph (b_rp_okt s t z ++ l_rp_okt t j)) (fun _ => 0) (fun j p hp => ph_app (show p < (b_rp_okt s t z).length from hp)) ⟨fun w => DecS.nil w, fun _ => rfl, trivial⟩ (fun j hj => ⟨(r_rp_okt_0, [.from 16, .from 17]), rfl, ⟨fun w v h => (by
        show DecS w v (decN 0 (t.data.toList.take (j + 1)))
        rw [decN_step (l := t.data.toList) (j := j) (by rw [← Lib.size_eq]; omega)]; exact h), fun _ _ h => (h : _ = Value.int .i64 ((j : Int) + 1)).trans (by simp), trivial⟩, (lbase (qLenS Tryz.underlying9 (fun _ _ h => h) rfl)
      (lbase (qTest (op := .lss) (fun _ _ h => h) (fun _ _ h => h) (tst_run (decide_eq_true (by omega)) (by simp)))
      (lbase (qIndexS Tryz.underlying9 (fun _ _ h => h) (fun _ _ h => h) ((by omega)) rfl)
      (lbase (qTestN (op := .lss) (fun _ _ h => h) (tst_run (decide_eq_false (by have := hd j hj; omega)) (by simp)))
      (lbase (qIndexS Tryz.underlying9 (fun _ _ h => h) (fun _ _ h => h) ((by omega)) rfl)
      (lbase (qTestN (op := .gtr) (fun _ _ h => h) (tst_run (decide_eq_false (by have := hd j hj; omega)) (by simp)))
      (lbase (qIndexS Tryz.underlying9 (fun _ _ h => h) (fun _ _ h => h) ((by omega)) rfl)
      (lbase (qSubN (fun _ _ h => h) (sub48 (hd j hj).1 (hd j hj).2) rfl)
      (lbase (qConvI (by kernel_rfl) Tryz.underlying3 (fun _ _ h => h) (by have := hd j hj; omega) (by have := hd j hj; omega) rfl)
      (lbase (tMulAdd 10 (by omega) (fun _ _ h => h) (fun _ _ h => h) (by have := hd j hj; omega) (dec_len400 hd (by omega) (by omega)) rfl)
      (lbase (qAddC' (fun _ _ h => h) rfl rfl (by omega) (by omega))
      lnil)))))))))))⟩)
      (lbase (qLenS Tryz.underlying9 (fun _ _ h => h) rfl)
      (lbase (qTest (op := .lss) (fun _ _ h => h) (fun _ _ h => h) (tst_run (decide_eq_false (by omega)) (by simp)))
      lnil))
      (fun q hq w v h => by
        rcases List.mem_singleton.1 hq with rfl
        have e : t.data.toList.take t.size = t.data.toList := List.take_of_length_le (by rw [← Lib.size_eq]; omega)
        exact (congrArg (fun l => DecS w v (decN 0 l)) e).mp h)) (lbase (tMade (fun _ _ h => h) (hz) (bd_all400 hd (by rw [Lib.size_eq]) (by omega)) rfl)
      lnil)))))))))))
    (ins_ok [.fact 0 (.one (.t))] ⟨fun _ _ h => IsT h, trivial⟩) (fun _ _ _ h => h)

def b_rp_blot (s t : ByteArray) : List (World → Value → Prop) := [fun _ v => v = .string s, fun _ v => v = .int .i64 (s.size : Int), fun _ v => v = .int .u8 ((s.data.toList.getD 0 0).toNat : Int), fun _ v => v = .string t, fun _ v => v = .int .i64 (t.size : Int), fun _ v => v = .int .i64 (t.size : Int)]
def l_rp_blot (t : ByteArray) (j : Nat) : List (World → Value → Prop) := [fun w v => DecS w v (decN 0 (t.data.toList.take j)), fun _ v => v = .int .i64 (j : Int), fun _ v => v = .int .i64 (t.size : Int), fun _ v => v = .int .u8 ((t.data.toList.getD j 0).toNat : Int), fun _ v => v = .int .u8 ((t.data.toList.getD j 0).toNat : Int), fun _ v => v = .int .u8 ((t.data.toList.getD j 0).toNat : Int), fun _ v => v = .int .u8 (((t.data.toList.getD j 0).toNat - 48 : Nat) : Int), fun _ v => v = .int .i64 (((t.data.toList.getD j 0).toNat - 48 : Nat) : Int), fun w v => DecS w v ((decN 0 (t.data.toList.take j)) * 10 + ((t.data.toList.getD j 0).toNat - 48)), fun _ v => v = .int .i64 ((j : Int) + 1), fun _ v => v = .int .i64 (t.size : Int), fun _ v => v = .int .u8 ((t.data.toList.getD j 0).toNat : Int)]
def d_rp_blot : LoopD := ⟨[0, 2, 3, 4, 7, 8, 9, 10, 11, 12, 13, 14, 15, 16, 17, 18, 19, 20, 21, 22, 23, 24, 25], [(.slot 5, .s), (.slot 6, .i)], [(.one 0, 6), (.one 1, 7)], [.closed (.one (.nl)), .closed (.one (.ci .i64 0))], 6, []⟩
def r_rp_blot_0 : List Step := [.base ⟨0, [.fact 3], [⟨.one (.i), [(0, 0, 8)]⟩], .quiet (mLen 9)⟩,
      .base ⟨0, [.fact 7, .fact 8], [⟨.one (.lit (.cb true)), []⟩], .quiet (mBin .lss)⟩,
      .base ⟨0, [.fact 3, .fact 7], [⟨.one (.nk), [(0, 0, 9)]⟩], .quiet (mIndex 9)⟩,
      .base ⟨0, [.fact 9, .lit (.ci .u8 48)], [⟨.one (.lit (.cb false)), []⟩], .quiet (mBin .lss)⟩,
      .base ⟨0, [.fact 3, .fact 7], [⟨.one (.nk), [(0, 0, 10)]⟩], .quiet (mIndex 9)⟩,
      .base ⟨0, [.fact 10, .lit (.ci .u8 57)], [⟨.one (.lit (.cb false)), []⟩], .quiet (mBin .gtr)⟩,
      .base ⟨0, [.fact 3, .fact 7], [⟨.one (.nk), [(0, 0, 11)]⟩], .quiet (mIndex 9)⟩,
      .base ⟨0, [.fact 11, .lit (.ci .u8 48)], [⟨.one (.nk), [(0, 0, 12)]⟩], .quiet (mBin .sub)⟩,
      .base ⟨0, [.fact 12], [⟨.one (.i), [(0, 0, 13)]⟩], .quiet (mConv 5 3)⟩,
      .base ⟨52, [.fact 6, .lit (.ci .i64 10), .fact 13], [⟨.one (.s), [(0, 0, 14)]⟩], false⟩,
      .base ⟨0, [.fact 7, .lit (.ci .i64 1)], [⟨.one (.i), [(0, 0, 15)]⟩], .quiet (mBin .add)⟩]
def o_rp_blot : List Step := [.base ⟨0, [.fact 3], [⟨.one (.i), [(0, 0, 16)]⟩], .quiet (mLen 9)⟩,
      .base ⟨0, [.fact 7, .fact 16], [⟨.one (.lit (.cb true)), []⟩], .quiet (mBin .lss)⟩,
      .base ⟨0, [.fact 3, .fact 7], [⟨.one (.nk), [(0, 0, 17)]⟩], .quiet (mIndex 9)⟩,
      .base ⟨0, [.fact 17, .lit (.ci .u8 48)], [⟨.one (.lit (.cb true)), []⟩], .quiet (mBin .lss)⟩]
def ss_rp_blot : List Step := [.base ⟨0, [.fact 0], [⟨.one (.i), [(0, 0, 1)]⟩], .quiet (mLen 9)⟩,
      .base ⟨0, [.fact 1, .lit (.ci .i64 0)], [⟨.one (.lit (.cb true)), []⟩], .quiet (mBin .gtr)⟩,
      .base ⟨0, [.fact 0, .lit (.ci .i64 0)], [⟨.one (.nk), [(0, 0, 2)]⟩], .quiet (mIndex 9)⟩,
      .base ⟨0, [.fact 2, .lit (.ci .u8 45)], [⟨.one (.lit (.cb true)), []⟩], .quiet (mBin .eql)⟩,
      .base ⟨0, [.fact 0, .lit (.ci .i64 1)], [⟨.one (.t), [(0, 0, 3)]⟩], .quiet (mFrom 9)⟩,
      .base ⟨0, [.fact 3], [⟨.one (.i), [(0, 0, 4)]⟩], .quiet (mLen 9)⟩,
      .base ⟨0, [.fact 4, .lit (.ci .i64 1)], [⟨.one (.lit (.cb false)), []⟩], .quiet (mBin .lss)⟩,
      .base ⟨0, [.fact 3], [⟨.one (.i), [(0, 0, 5)]⟩], .quiet (mLen 9)⟩,
      .base ⟨0, [.fact 5, .lit (.ci .i64 400)], [⟨.one (.lit (.cb false)), []⟩], .quiet (mBin .gtr)⟩,
      .loop d_rp_blot [(r_rp_blot_0, [.from 14, .from 15])] o_rp_blot]
def ins_rp_blot : List Out := [⟨.one (.t), [(0, 0, 0)]⟩]
set_option maxRecDepth 100000 in
theorem rp_blot {s t : ByteArray} {b : Nat} (h0 : 0 < s.size) (hc : (s.data.toList.getD 0 0).toNat = 45) (ht : s.extract 1 s.size = t) (h1 : 1 ≤ t.size) (h400 : t.size ≤ 400) (hd : ∀ j, j < b → 48 ≤ (t.data.toList.getD j 0).toNat ∧ (t.data.toList.getD j 0).toNat ≤ 57) (hb : b < t.size) (h4 : (t.data.toList.getD b 0).toNat < 48)  : SiteOk (ph (b_rp_blot s t)) Tryz.prog ⟨17, [.fact 0], [⟨.agg [.lit (.nl), .lit (.cb false)], []⟩, ⟨.one (.lit (.cb false)), []⟩], true⟩ :=
  fn_okL ins_rp_blot [⟨.agg [.lit (.nl), .lit (.cb false)], []⟩, ⟨.one (.lit (.cb false)), []⟩] ss_rp_blot Tryz.func17 (by kernel_rfl)
    (lbase (qLenS Tryz.underlying9 (fun _ _ h => h) rfl)
      (lbase (qTestN (op := .gtr) (fun _ _ h => h) (tst_run (decide_eq_true (by omega)) (by simp)))
      (lbase (qIndexSC 0 rfl Tryz.underlying9 (fun _ _ h => h) (h0) rfl)
      (lbase (qTestN (op := .eql) (fun _ _ h => h) (tst_run (tst45 hc) (by simp)))
      (lbase (qFromSC 1 rfl Tryz.underlying9 (fun _ _ h => h) (h0) ht rfl)
      (lbase (qLenS Tryz.underlying9 (fun _ _ h => h) rfl)
      (lbase (qTestN (op := .lss) (fun _ _ h => h) (tst_run (decide_eq_false (by omega)) (by simp)))
      (lbase (qLenS Tryz.underlying9 (fun _ _ h => h) rfl)
      (lbase (qTestN (op := .gtr) (fun _ _ h => h) (tst_run (decide_eq_false (by omega)) (by simp)))
      (lloop (counted b (fun j => ph (b_rp_blot s t ++ l_rp_blot t j)) (fun _ => 0) (fun j p hp => ph_app (show p < (b_rp_blot s t).length from hp)) ⟨fun w => DecS.nil w, fun _ => rfl, trivial⟩ (fun j hj => ⟨(r_rp_blot_0, [.from 14, .from 15]), rfl, ⟨fun w v h => (by
        show DecS w v (decN 0 (t.data.toList.take (j + 1)))
        rw [decN_step (l := t.data.toList) (j := j) (by rw [← Lib.size_eq]; omega)]; exact h), fun _ _ h => (h : _ = Value.int .i64 ((j : Int) + 1)).trans (by simp), trivial⟩, (lbase (qLenS Tryz.underlying9 (fun _ _ h => h) rfl)
      (lbase (qTest (op := .lss) (fun _ _ h => h) (fun _ _ h => h) (tst_run (decide_eq_true (by omega)) (by simp)))
      (lbase (qIndexS Tryz.underlying9 (fun _ _ h => h) (fun _ _ h => h) ((by omega)) rfl)
      (lbase (qTestN (op := .lss) (fun _ _ h => h) (tst_run (decide_eq_false (by have := hd j hj; omega)) (by simp)))
      (lbase (qIndexS Tryz.underlying9 (fun _ _ h => h) (fun _ _ h => h) ((by omega)) rfl)
      (lbase (qTestN (op := .gtr) (fun _ _ h => h) (tst_run (decide_eq_false (by have := hd j hj; omega)) (by simp)))
      (lbase (qIndexS Tryz.underlying9 (fun _ _ h => h) (fun _ _ h => h) ((by omega)) rfl)
      (lbase (qSubN (fun _ _ h => h) (sub48 (hd j hj).1 (hd j hj).2) rfl)
      (lbase (qConvI (by kernel_rfl) Tryz.underlying3 (fun _ _ h => h) (by have := hd j hj; omega) (by have := hd j hj; omega) rfl)
      (lbase (tMulAdd 10 (by omega) (fun _ _ h => h) (fun _ _ h => h) (by have := hd j hj; omega) (dec_len400 hd (by omega) (by omega)) rfl)
      (lbase (qAddC' (fun _ _ h => h) rfl rfl (by omega) (by omega))
      lnil)))))))))))⟩)
      (lbase (qLenS Tryz.underlying9 (fun _ _ h => h) rfl)
      (lbase (qTest (op := .lss) (fun _ _ h => h) (fun _ _ h => h) (tst_run (decide_eq_true (by omega)) (by simp)))
      (lbase (qIndexS Tryz.underlying9 (fun _ _ h => h) (fun _ _ h => h) (hb) rfl)
      (lbase (qTestN (op := .lss) (fun _ _ h => h) (tst_run (decide_eq_true (by omega)) (by simp)))
      lnil))))
      (fun q hq => by cases hq)) lnil))))))))))
    (ins_ok [.fact 0 (.one (.t))] ⟨fun _ _ h => IsT h, trivial⟩) (fun _ _ _ h => h)

def b_rp_bhit (s t : ByteArray) : List (World → Value → Prop) := [fun _ v => v = .string s, fun _ v => v = .int .i64 (s.size : Int), fun _ v => v = .int .u8 ((s.data.toList.getD 0 0).toNat : Int), fun _ v => v = .string t, fun _ v => v = .int .i64 (t.size : Int), fun _ v => v = .int .i64 (t.size : Int)]
def l_rp_bhit (t : ByteArray) (j : Nat) : List (World → Value → Prop) := [fun w v => DecS w v (decN 0 (t.data.toList.take j)), fun _ v => v = .int .i64 (j : Int), fun _ v => v = .int .i64 (t.size : Int), fun _ v => v = .int .u8 ((t.data.toList.getD j 0).toNat : Int), fun _ v => v = .int .u8 ((t.data.toList.getD j 0).toNat : Int), fun _ v => v = .int .u8 ((t.data.toList.getD j 0).toNat : Int), fun _ v => v = .int .u8 (((t.data.toList.getD j 0).toNat - 48 : Nat) : Int), fun _ v => v = .int .i64 (((t.data.toList.getD j 0).toNat - 48 : Nat) : Int), fun w v => DecS w v ((decN 0 (t.data.toList.take j)) * 10 + ((t.data.toList.getD j 0).toNat - 48)), fun _ v => v = .int .i64 ((j : Int) + 1), fun _ v => v = .int .i64 (t.size : Int), fun _ v => v = .int .u8 ((t.data.toList.getD j 0).toNat : Int), fun _ v => v = .int .u8 ((t.data.toList.getD j 0).toNat : Int)]
def d_rp_bhit : LoopD := ⟨[0, 2, 3, 4, 7, 8, 9, 10, 11, 12, 13, 14, 15, 16, 17, 18, 19, 20, 21, 22, 23, 24, 25], [(.slot 5, .s), (.slot 6, .i)], [(.one 0, 6), (.one 1, 7)], [.closed (.one (.nl)), .closed (.one (.ci .i64 0))], 6, []⟩
def r_rp_bhit_0 : List Step := [.base ⟨0, [.fact 3], [⟨.one (.i), [(0, 0, 8)]⟩], .quiet (mLen 9)⟩,
      .base ⟨0, [.fact 7, .fact 8], [⟨.one (.lit (.cb true)), []⟩], .quiet (mBin .lss)⟩,
      .base ⟨0, [.fact 3, .fact 7], [⟨.one (.nk), [(0, 0, 9)]⟩], .quiet (mIndex 9)⟩,
      .base ⟨0, [.fact 9, .lit (.ci .u8 48)], [⟨.one (.lit (.cb false)), []⟩], .quiet (mBin .lss)⟩,
      .base ⟨0, [.fact 3, .fact 7], [⟨.one (.nk), [(0, 0, 10)]⟩], .quiet (mIndex 9)⟩,
      .base ⟨0, [.fact 10, .lit (.ci .u8 57)], [⟨.one (.lit (.cb false)), []⟩], .quiet (mBin .gtr)⟩,
      .base ⟨0, [.fact 3, .fact 7], [⟨.one (.nk), [(0, 0, 11)]⟩], .quiet (mIndex 9)⟩,
      .base ⟨0, [.fact 11, .lit (.ci .u8 48)], [⟨.one (.nk), [(0, 0, 12)]⟩], .quiet (mBin .sub)⟩,
      .base ⟨0, [.fact 12], [⟨.one (.i), [(0, 0, 13)]⟩], .quiet (mConv 5 3)⟩,
      .base ⟨52, [.fact 6, .lit (.ci .i64 10), .fact 13], [⟨.one (.s), [(0, 0, 14)]⟩], false⟩,
      .base ⟨0, [.fact 7, .lit (.ci .i64 1)], [⟨.one (.i), [(0, 0, 15)]⟩], .quiet (mBin .add)⟩]
def o_rp_bhit : List Step := [.base ⟨0, [.fact 3], [⟨.one (.i), [(0, 0, 16)]⟩], .quiet (mLen 9)⟩,
      .base ⟨0, [.fact 7, .fact 16], [⟨.one (.lit (.cb true)), []⟩], .quiet (mBin .lss)⟩,
      .base ⟨0, [.fact 3, .fact 7], [⟨.one (.nk), [(0, 0, 17)]⟩], .quiet (mIndex 9)⟩,
      .base ⟨0, [.fact 17, .lit (.ci .u8 48)], [⟨.one (.lit (.cb false)), []⟩], .quiet (mBin .lss)⟩,
      .base ⟨0, [.fact 3, .fact 7], [⟨.one (.nk), [(0, 0, 18)]⟩], .quiet (mIndex 9)⟩,
      .base ⟨0, [.fact 18, .lit (.ci .u8 57)], [⟨.one (.lit (.cb true)), []⟩], .quiet (mBin .gtr)⟩]
def ss_rp_bhit : List Step := [.base ⟨0, [.fact 0], [⟨.one (.i), [(0, 0, 1)]⟩], .quiet (mLen 9)⟩,
      .base ⟨0, [.fact 1, .lit (.ci .i64 0)], [⟨.one (.lit (.cb true)), []⟩], .quiet (mBin .gtr)⟩,
      .base ⟨0, [.fact 0, .lit (.ci .i64 0)], [⟨.one (.nk), [(0, 0, 2)]⟩], .quiet (mIndex 9)⟩,
      .base ⟨0, [.fact 2, .lit (.ci .u8 45)], [⟨.one (.lit (.cb true)), []⟩], .quiet (mBin .eql)⟩,
      .base ⟨0, [.fact 0, .lit (.ci .i64 1)], [⟨.one (.t), [(0, 0, 3)]⟩], .quiet (mFrom 9)⟩,
      .base ⟨0, [.fact 3], [⟨.one (.i), [(0, 0, 4)]⟩], .quiet (mLen 9)⟩,
      .base ⟨0, [.fact 4, .lit (.ci .i64 1)], [⟨.one (.lit (.cb false)), []⟩], .quiet (mBin .lss)⟩,
      .base ⟨0, [.fact 3], [⟨.one (.i), [(0, 0, 5)]⟩], .quiet (mLen 9)⟩,
      .base ⟨0, [.fact 5, .lit (.ci .i64 400)], [⟨.one (.lit (.cb false)), []⟩], .quiet (mBin .gtr)⟩,
      .loop d_rp_bhit [(r_rp_bhit_0, [.from 14, .from 15])] o_rp_bhit]
def ins_rp_bhit : List Out := [⟨.one (.t), [(0, 0, 0)]⟩]
set_option maxRecDepth 100000 in
theorem rp_bhit {s t : ByteArray} {b : Nat} (h0 : 0 < s.size) (hc : (s.data.toList.getD 0 0).toNat = 45) (ht : s.extract 1 s.size = t) (h1 : 1 ≤ t.size) (h400 : t.size ≤ 400) (hd : ∀ j, j < b → 48 ≤ (t.data.toList.getD j 0).toNat ∧ (t.data.toList.getD j 0).toNat ≤ 57) (hb : b < t.size) (_h3 : ¬ (t.data.toList.getD b 0).toNat < 48) (h4 : 57 < (t.data.toList.getD b 0).toNat)  : SiteOk (ph (b_rp_bhit s t)) Tryz.prog ⟨17, [.fact 0], [⟨.agg [.lit (.nl), .lit (.cb false)], []⟩, ⟨.one (.lit (.cb false)), []⟩], true⟩ :=
  fn_okL ins_rp_bhit [⟨.agg [.lit (.nl), .lit (.cb false)], []⟩, ⟨.one (.lit (.cb false)), []⟩] ss_rp_bhit Tryz.func17 (by kernel_rfl)
    (lbase (qLenS Tryz.underlying9 (fun _ _ h => h) rfl)
      (lbase (qTestN (op := .gtr) (fun _ _ h => h) (tst_run (decide_eq_true (by omega)) (by simp)))
      (lbase (qIndexSC 0 rfl Tryz.underlying9 (fun _ _ h => h) (h0) rfl)
      (lbase (qTestN (op := .eql) (fun _ _ h => h) (tst_run (tst45 hc) (by simp)))
      (lbase (qFromSC 1 rfl Tryz.underlying9 (fun _ _ h => h) (h0) ht rfl)
      (lbase (qLenS Tryz.underlying9 (fun _ _ h => h) rfl)
      (lbase (qTestN (op := .lss) (fun _ _ h => h) (tst_run (decide_eq_false (by omega)) (by simp)))
      (lbase (qLenS Tryz.underlying9 (fun _ _ h => h) rfl)
      (lbase (qTestN (op := .gtr) (fun _ _ h => h) (tst_run (decide_eq_false (by omega)) (by simp)))
      (lloop (counted b (fun j => ph (b_rp_bhit s t ++ l_rp_bhit t j)) (fun _ => 0) (fun j p hp => ph_app (show p < (b_rp_bhit s t).length from hp)) ⟨fun w => DecS.nil w, fun _ => rfl, trivial⟩ (fun j hj => ⟨(r_rp_bhit_0, [.from 14, .from 15]), rfl, ⟨fun w v h => (by
        show DecS w v (decN 0 (t.data.toList.take (j + 1)))
        rw [decN_step (l := t.data.toList) (j := j) (by rw [← Lib.size_eq]; omega)]; exact h), fun _ _ h => (h : _ = Value.int .i64 ((j : Int) + 1)).trans (by simp), trivial⟩, (lbase (qLenS Tryz.underlying9 (fun _ _ h => h) rfl)
      (lbase (qTest (op := .lss) (fun _ _ h => h) (fun _ _ h => h) (tst_run (decide_eq_true (by omega)) (by simp)))
      (lbase (qIndexS Tryz.underlying9 (fun _ _ h => h) (fun _ _ h => h) ((by omega)) rfl)
      (lbase (qTestN (op := .lss) (fun _ _ h => h) (tst_run (decide_eq_false (by have := hd j hj; omega)) (by simp)))
      (lbase (qIndexS Tryz.underlying9 (fun _ _ h => h) (fun _ _ h => h) ((by omega)) rfl)
      (lbase (qTestN (op := .gtr) (fun _ _ h => h) (tst_run (decide_eq_false (by have := hd j hj; omega)) (by simp)))
      (lbase (qIndexS Tryz.underlying9 (fun _ _ h => h) (fun _ _ h => h) ((by omega)) rfl)
      (lbase (qSubN (fun _ _ h => h) (sub48 (hd j hj).1 (hd j hj).2) rfl)
      (lbase (qConvI (by kernel_rfl) Tryz.underlying3 (fun _ _ h => h) (by have := hd j hj; omega) (by have := hd j hj; omega) rfl)
      (lbase (tMulAdd 10 (by omega) (fun _ _ h => h) (fun _ _ h => h) (by have := hd j hj; omega) (dec_len400 hd (by omega) (by omega)) rfl)
      (lbase (qAddC' (fun _ _ h => h) rfl rfl (by omega) (by omega))
      lnil)))))))))))⟩)
      (lbase (qLenS Tryz.underlying9 (fun _ _ h => h) rfl)
      (lbase (qTest (op := .lss) (fun _ _ h => h) (fun _ _ h => h) (tst_run (decide_eq_true (by omega)) (by simp)))
      (lbase (qIndexS Tryz.underlying9 (fun _ _ h => h) (fun _ _ h => h) (hb) rfl)
      (lbase (qTestN (op := .lss) (fun _ _ h => h) (tst_run (decide_eq_false (by omega)) (by simp)))
      (lbase (qIndexS Tryz.underlying9 (fun _ _ h => h) (fun _ _ h => h) (hb) rfl)
      (lbase (qTestN (op := .gtr) (fun _ _ h => h) (tst_run (decide_eq_true (by omega)) (by simp)))
      lnil))))))
      (fun q hq => by cases hq)) lnil))))))))))
    (ins_ok [.fact 0 (.one (.t))] ⟨fun _ _ h => IsT h, trivial⟩) (fun _ _ _ h => h)

def phi_rp_e0 (s : ByteArray) : List (World → Value → Prop) := [fun _ v => v = .string s, fun _ v => v = .int .i64 (s.size : Int), fun _ v => v = .int .i64 (s.size : Int)]
def ins_rp_e0 : List Out := [⟨.one (.t), [(0, 0, 0)]⟩]
def ss_rp_e0 : List Site := [⟨0, [.fact 0], [⟨.one (.i), [(0, 0, 1)]⟩], .quiet (mLen 9)⟩,
      ⟨0, [.fact 1, .lit (.ci .i64 0)], [⟨.one (.lit (.cb false)), []⟩], .quiet (mBin .gtr)⟩,
      ⟨0, [.fact 0], [⟨.one (.i), [(0, 0, 2)]⟩], .quiet (mLen 9)⟩,
      ⟨0, [.fact 2, .lit (.ci .i64 1)], [⟨.one (.lit (.cb true)), []⟩], .quiet (mBin .lss)⟩]
set_option maxRecDepth 100000 in
theorem rp_e0 {s : ByteArray} (h0 : s.size = 0) : SiteOk (ph (phi_rp_e0 s)) Tryz.prog ⟨17, [.fact 0], [⟨.agg [.lit (.nl), .lit (.cb false)], []⟩, ⟨.one (.lit (.cb false)), []⟩], true⟩ :=
  fn_ok ins_rp_e0 [⟨.agg [.lit (.nl), .lit (.cb false)], []⟩, ⟨.one (.lit (.cb false)), []⟩] ss_rp_e0 Tryz.func17 (by kernel_rfl)
    (all_cons (qLenS Tryz.underlying9 (fun _ _ h => h) rfl)
      (all_cons (qTestN (op := .gtr) (fun _ _ h => h) (tst_run (decide_eq_false (by omega)) (by simp)))
      (all_cons (qLenS Tryz.underlying9 (fun _ _ h => h) rfl)
      (all_cons (qTestN (op := .lss) (fun _ _ h => h) (tst_run (decide_eq_true (by omega)) (by simp)))
      all_nil))))
    (ins_ok [.fact 0 (.one (.t))] ⟨fun _ _ h => IsT h, trivial⟩) (fun _ _ _ h => h)

def phi_rp_e2f (s : ByteArray) : List (World → Value → Prop) := [fun _ v => v = .string s, fun _ v => v = .int .i64 (s.size : Int), fun _ v => v = .int .u8 ((s.data.toList.getD 0 0).toNat : Int), fun _ v => v = .int .i64 (s.size : Int), fun _ v => v = .int .i64 (s.size : Int)]
def ins_rp_e2f : List Out := [⟨.one (.t), [(0, 0, 0)]⟩]
def ss_rp_e2f : List Site := [⟨0, [.fact 0], [⟨.one (.i), [(0, 0, 1)]⟩], .quiet (mLen 9)⟩,
      ⟨0, [.fact 1, .lit (.ci .i64 0)], [⟨.one (.lit (.cb true)), []⟩], .quiet (mBin .gtr)⟩,
      ⟨0, [.fact 0, .lit (.ci .i64 0)], [⟨.one (.nk), [(0, 0, 2)]⟩], .quiet (mIndex 9)⟩,
      ⟨0, [.fact 2, .lit (.ci .u8 45)], [⟨.one (.lit (.cb false)), []⟩], .quiet (mBin .eql)⟩,
      ⟨0, [.fact 0], [⟨.one (.i), [(0, 0, 3)]⟩], .quiet (mLen 9)⟩,
      ⟨0, [.fact 3, .lit (.ci .i64 1)], [⟨.one (.lit (.cb false)), []⟩], .quiet (mBin .lss)⟩,
      ⟨0, [.fact 0], [⟨.one (.i), [(0, 0, 4)]⟩], .quiet (mLen 9)⟩,
      ⟨0, [.fact 4, .lit (.ci .i64 400)], [⟨.one (.lit (.cb true)), []⟩], .quiet (mBin .gtr)⟩]
set_option maxRecDepth 100000 in
theorem rp_e2f {s : ByteArray} (h0 : 0 < s.size) (hc : (s.data.toList.getD 0 0).toNat ≠ 45) (h1 : 400 < s.size) : SiteOk (ph (phi_rp_e2f s)) Tryz.prog ⟨17, [.fact 0], [⟨.agg [.lit (.nl), .lit (.cb false)], []⟩, ⟨.one (.lit (.cb false)), []⟩], true⟩ :=
  fn_ok ins_rp_e2f [⟨.agg [.lit (.nl), .lit (.cb false)], []⟩, ⟨.one (.lit (.cb false)), []⟩] ss_rp_e2f Tryz.func17 (by kernel_rfl)
    (all_cons (qLenS Tryz.underlying9 (fun _ _ h => h) rfl)
      (all_cons (qTestN (op := .gtr) (fun _ _ h => h) (tst_run (decide_eq_true (by omega)) (by simp)))
      (all_cons (qIndexSC 0 rfl Tryz.underlying9 (fun _ _ h => h) (h0) rfl)
      (all_cons (qTestN (op := .eql) (fun _ _ h => h) (tst_run (tst45n hc) (by simp)))
      (all_cons (qLenS Tryz.underlying9 (fun _ _ h => h) rfl)
      (all_cons (qTestN (op := .lss) (fun _ _ h => h) (tst_run (decide_eq_false (by omega)) (by simp)))
      (all_cons (qLenS Tryz.underlying9 (fun _ _ h => h) rfl)
      (all_cons (qTestN (op := .gtr) (fun _ _ h => h) (tst_run (decide_eq_true (by omega)) (by simp)))
      all_nil))))))))
    (ins_ok [.fact 0 (.one (.t))] ⟨fun _ _ h => IsT h, trivial⟩) (fun _ _ _ h => h)

def b_rp_okf (s : ByteArray) (z : Int) : List (World → Value → Prop) := [fun _ v => v = .string s, fun _ v => v = .int .i64 (s.size : Int), fun _ v => v = .int .u8 ((s.data.toList.getD 0 0).toNat : Int), fun _ v => v = .int .i64 (s.size : Int), fun _ v => v = .int .i64 (s.size : Int), fun w v => DecS w v (decN 0 s.data.toList), fun w v => DecI w v z 50]
def l_rp_okf (s : ByteArray) (j : Nat) : List (World → Value → Prop) := [fun w v => DecS w v (decN 0 (s.data.toList.take j)), fun _ v => v = .int .i64 (j : Int), fun _ v => v = .int .i64 (s.size : Int), fun _ v => v = .int .u8 ((s.data.toList.getD j 0).toNat : Int), fun _ v => v = .int .u8 ((s.data.toList.getD j 0).toNat : Int), fun _ v => v = .int .u8 ((s.data.toList.getD j 0).toNat : Int), fun _ v => v = .int .u8 (((s.data.toList.getD j 0).toNat - 48 : Nat) : Int), fun _ v => v = .int .i64 (((s.data.toList.getD j 0).toNat - 48 : Nat) : Int), fun w v => DecS w v ((decN 0 (s.data.toList.take j)) * 10 + ((s.data.toList.getD j 0).toNat - 48)), fun _ v => v = .int .i64 ((j : Int) + 1), fun _ v => v = .int .i64 (s.size : Int)]
def d_rp_okf : LoopD := ⟨[0, 2, 3, 4, 7, 8, 9, 10, 11, 12, 13, 14, 15, 18, 19, 20, 21, 22, 23, 24, 25], [(.slot 5, .s), (.slot 6, .i)], [(.one 0, 7), (.one 1, 8)], [.closed (.one (.nl)), .closed (.one (.ci .i64 0))], 7, [(7, 5)]⟩
def r_rp_okf_0 : List Step := [.base ⟨0, [.fact 0], [⟨.one (.i), [(0, 0, 9)]⟩], .quiet (mLen 9)⟩,
      .base ⟨0, [.fact 8, .fact 9], [⟨.one (.lit (.cb true)), []⟩], .quiet (mBin .lss)⟩,
      .base ⟨0, [.fact 0, .fact 8], [⟨.one (.nk), [(0, 0, 10)]⟩], .quiet (mIndex 9)⟩,
      .base ⟨0, [.fact 10, .lit (.ci .u8 48)], [⟨.one (.lit (.cb false)), []⟩], .quiet (mBin .lss)⟩,
      .base ⟨0, [.fact 0, .fact 8], [⟨.one (.nk), [(0, 0, 11)]⟩], .quiet (mIndex 9)⟩,
      .base ⟨0, [.fact 11, .lit (.ci .u8 57)], [⟨.one (.lit (.cb false)), []⟩], .quiet (mBin .gtr)⟩,
      .base ⟨0, [.fact 0, .fact 8], [⟨.one (.nk), [(0, 0, 12)]⟩], .quiet (mIndex 9)⟩,
      .base ⟨0, [.fact 12, .lit (.ci .u8 48)], [⟨.one (.nk), [(0, 0, 13)]⟩], .quiet (mBin .sub)⟩,
      .base ⟨0, [.fact 13], [⟨.one (.i), [(0, 0, 14)]⟩], .quiet (mConv 5 3)⟩,
      .base ⟨52, [.fact 7, .lit (.ci .i64 10), .fact 14], [⟨.one (.s), [(0, 0, 15)]⟩], false⟩,
      .base ⟨0, [.fact 8, .lit (.ci .i64 1)], [⟨.one (.i), [(0, 0, 16)]⟩], .quiet (mBin .add)⟩]
def o_rp_okf : List Step := [.base ⟨0, [.fact 0], [⟨.one (.i), [(0, 0, 17)]⟩], .quiet (mLen 9)⟩,
      .base ⟨0, [.fact 8, .fact 17], [⟨.one (.lit (.cb false)), []⟩], .quiet (mBin .lss)⟩]
def ss_rp_okf : List Step := [.base ⟨0, [.fact 0], [⟨.one (.i), [(0, 0, 1)]⟩], .quiet (mLen 9)⟩,
      .base ⟨0, [.fact 1, .lit (.ci .i64 0)], [⟨.one (.lit (.cb true)), []⟩], .quiet (mBin .gtr)⟩,
      .base ⟨0, [.fact 0, .lit (.ci .i64 0)], [⟨.one (.nk), [(0, 0, 2)]⟩], .quiet (mIndex 9)⟩,
      .base ⟨0, [.fact 2, .lit (.ci .u8 45)], [⟨.one (.lit (.cb false)), []⟩], .quiet (mBin .eql)⟩,
      .base ⟨0, [.fact 0], [⟨.one (.i), [(0, 0, 3)]⟩], .quiet (mLen 9)⟩,
      .base ⟨0, [.fact 3, .lit (.ci .i64 1)], [⟨.one (.lit (.cb false)), []⟩], .quiet (mBin .lss)⟩,
      .base ⟨0, [.fact 0], [⟨.one (.i), [(0, 0, 4)]⟩], .quiet (mLen 9)⟩,
      .base ⟨0, [.fact 4, .lit (.ci .i64 400)], [⟨.one (.lit (.cb false)), []⟩], .quiet (mBin .gtr)⟩,
      .loop d_rp_okf [(r_rp_okf_0, [.from 15, .from 16])] o_rp_okf,
      .base ⟨45, [.fact 5, .lit (.cb false)], [⟨.agg [.s, .b], [(0, 0, 6)]⟩], false⟩]
def ins_rp_okf : List Out := [⟨.one (.t), [(0, 0, 0)]⟩]
set_option maxRecDepth 100000 in
theorem rp_okf {s : ByteArray} {z : Int} (h0 : 0 < s.size) (hc : (s.data.toList.getD 0 0).toNat ≠ 45) (_h1 : 1 ≤ s.size) (h400 : s.size ≤ 400) (hd : ∀ j, j < s.size → 48 ≤ (s.data.toList.getD j 0).toNat ∧ (s.data.toList.getD j 0).toNat ≤ 57) (hz : sg false (decN 0 s.data.toList) = z)  : SiteOk (ph (b_rp_okf s z)) Tryz.prog ⟨17, [.fact 0], [⟨.agg [.s, .b], [(0, 0, 6)]⟩, ⟨.one (.lit (.cb true)), []⟩], true⟩ :=
  fn_okL ins_rp_okf [⟨.agg [.s, .b], [(0, 0, 6)]⟩, ⟨.one (.lit (.cb true)), []⟩] ss_rp_okf Tryz.func17 (by kernel_rfl)
    (lbase (qLenS Tryz.underlying9 (fun _ _ h => h) rfl)
      (lbase (qTestN (op := .gtr) (fun _ _ h => h) (tst_run (decide_eq_true (by omega)) (by simp)))
      (lbase (qIndexSC 0 rfl Tryz.underlying9 (fun _ _ h => h) (h0) rfl)
      (lbase (qTestN (op := .eql) (fun _ _ h => h) (tst_run (tst45n hc) (by simp)))
      (lbase (qLenS Tryz.underlying9 (fun _ _ h => h) rfl)
      (lbase (qTestN (op := .lss) (fun _ _ h => h) (tst_run (decide_eq_false (by omega)) (by simp)))
      (lbase (qLenS Tryz.underlying9 (fun _ _ h => h) rfl)
      (lbase (qTestN (op := .gtr) (fun _ _ h => h) (tst_run (decide_eq_false (by omega)) (by simp)))
      (lloop (counted s.size (fun j => ph (b_rp_okf s z ++ l_rp_okf s j)) (fun _ => 0) (fun j p hp => ph_app (show p < (b_rp_okf s z).length from hp)) ⟨fun w => DecS.nil w, fun _ => rfl, trivial⟩ (fun j hj => ⟨(r_rp_okf_0, [.from 15, .from 16]), rfl, ⟨fun w v h => (by
        show DecS w v (decN 0 (s.data.toList.take (j + 1)))
        rw [decN_step (l := s.data.toList) (j := j) (by rw [← Lib.size_eq]; omega)]; exact h), fun _ _ h => (h : _ = Value.int .i64 ((j : Int) + 1)).trans (by simp), trivial⟩, (lbase (qLenS Tryz.underlying9 (fun _ _ h => h) rfl)
      (lbase (qTest (op := .lss) (fun _ _ h => h) (fun _ _ h => h) (tst_run (decide_eq_true (by omega)) (by simp)))
      (lbase (qIndexS Tryz.underlying9 (fun _ _ h => h) (fun _ _ h => h) ((by omega)) rfl)
      (lbase (qTestN (op := .lss) (fun _ _ h => h) (tst_run (decide_eq_false (by have := hd j hj; omega)) (by simp)))
      (lbase (qIndexS Tryz.underlying9 (fun _ _ h => h) (fun _ _ h => h) ((by omega)) rfl)
      (lbase (qTestN (op := .gtr) (fun _ _ h => h) (tst_run (decide_eq_false (by have := hd j hj; omega)) (by simp)))
      (lbase (qIndexS Tryz.underlying9 (fun _ _ h => h) (fun _ _ h => h) ((by omega)) rfl)
      (lbase (qSubN (fun _ _ h => h) (sub48 (hd j hj).1 (hd j hj).2) rfl)
      (lbase (qConvI (by kernel_rfl) Tryz.underlying3 (fun _ _ h => h) (by have := hd j hj; omega) (by have := hd j hj; omega) rfl)
      (lbase (tMulAdd 10 (by omega) (fun _ _ h => h) (fun _ _ h => h) (by have := hd j hj; omega) (dec_len400 hd (by omega) (by omega)) rfl)
      (lbase (qAddC' (fun _ _ h => h) rfl rfl (by omega) (by omega))
      lnil)))))))))))⟩)
      (lbase (qLenS Tryz.underlying9 (fun _ _ h => h) rfl)
      (lbase (qTest (op := .lss) (fun _ _ h => h) (fun _ _ h => h) (tst_run (decide_eq_false (by omega)) (by simp)))
      lnil))
      (fun q hq w v h => by
        rcases List.mem_singleton.1 hq with rfl
        have e : s.data.toList.take s.size = s.data.toList := List.take_of_length_le (by rw [← Lib.size_eq]; omega)
        exact (congrArg (fun l => DecS w v (decN 0 l)) e).mp h)) (lbase (tMade (fun _ _ h => h) (hz) (bd_all400 hd (by rw [Lib.size_eq]) (by omega)) rfl)
      lnil))))))))))
    (ins_ok [.fact 0 (.one (.t))] ⟨fun _ _ h => IsT h, trivial⟩) (fun _ _ _ h => h)

def b_rp_blof (s : ByteArray) : List (World → Value → Prop) := [fun _ v => v = .string s, fun _ v => v = .int .i64 (s.size : Int), fun _ v => v = .int .u8 ((s.data.toList.getD 0 0).toNat : Int), fun _ v => v = .int .i64 (s.size : Int), fun _ v => v = .int .i64 (s.size : Int)]
def l_rp_blof (s : ByteArray) (j : Nat) : List (World → Value → Prop) := [fun w v => DecS w v (decN 0 (s.data.toList.take j)), fun _ v => v = .int .i64 (j : Int), fun _ v => v = .int .i64 (s.size : Int), fun _ v => v = .int .u8 ((s.data.toList.getD j 0).toNat : Int), fun _ v => v = .int .u8 ((s.data.toList.getD j 0).toNat : Int), fun _ v => v = .int .u8 ((s.data.toList.getD j 0).toNat : Int), fun _ v => v = .int .u8 (((s.data.toList.getD j 0).toNat - 48 : Nat) : Int), fun _ v => v = .int .i64 (((s.data.toList.getD j 0).toNat - 48 : Nat) : Int), fun w v => DecS w v ((decN 0 (s.data.toList.take j)) * 10 + ((s.data.toList.getD j 0).toNat - 48)), fun _ v => v = .int .i64 ((j : Int) + 1), fun _ v => v = .int .i64 (s.size : Int), fun _ v => v = .int .u8 ((s.data.toList.getD j 0).toNat : Int)]
def d_rp_blof : LoopD := ⟨[0, 2, 3, 4, 7, 8, 9, 10, 11, 12, 13, 14, 15, 18, 19, 20, 21, 22, 23, 24, 25], [(.slot 5, .s), (.slot 6, .i)], [(.one 0, 5), (.one 1, 6)], [.closed (.one (.nl)), .closed (.one (.ci .i64 0))], 5, []⟩
def r_rp_blof_0 : List Step := [.base ⟨0, [.fact 0], [⟨.one (.i), [(0, 0, 7)]⟩], .quiet (mLen 9)⟩,
      .base ⟨0, [.fact 6, .fact 7], [⟨.one (.lit (.cb true)), []⟩], .quiet (mBin .lss)⟩,
      .base ⟨0, [.fact 0, .fact 6], [⟨.one (.nk), [(0, 0, 8)]⟩], .quiet (mIndex 9)⟩,
      .base ⟨0, [.fact 8, .lit (.ci .u8 48)], [⟨.one (.lit (.cb false)), []⟩], .quiet (mBin .lss)⟩,
      .base ⟨0, [.fact 0, .fact 6], [⟨.one (.nk), [(0, 0, 9)]⟩], .quiet (mIndex 9)⟩,
      .base ⟨0, [.fact 9, .lit (.ci .u8 57)], [⟨.one (.lit (.cb false)), []⟩], .quiet (mBin .gtr)⟩,
      .base ⟨0, [.fact 0, .fact 6], [⟨.one (.nk), [(0, 0, 10)]⟩], .quiet (mIndex 9)⟩,
      .base ⟨0, [.fact 10, .lit (.ci .u8 48)], [⟨.one (.nk), [(0, 0, 11)]⟩], .quiet (mBin .sub)⟩,
      .base ⟨0, [.fact 11], [⟨.one (.i), [(0, 0, 12)]⟩], .quiet (mConv 5 3)⟩,
      .base ⟨52, [.fact 5, .lit (.ci .i64 10), .fact 12], [⟨.one (.s), [(0, 0, 13)]⟩], false⟩,
      .base ⟨0, [.fact 6, .lit (.ci .i64 1)], [⟨.one (.i), [(0, 0, 14)]⟩], .quiet (mBin .add)⟩]
def o_rp_blof : List Step := [.base ⟨0, [.fact 0], [⟨.one (.i), [(0, 0, 15)]⟩], .quiet (mLen 9)⟩,
      .base ⟨0, [.fact 6, .fact 15], [⟨.one (.lit (.cb true)), []⟩], .quiet (mBin .lss)⟩,
      .base ⟨0, [.fact 0, .fact 6], [⟨.one (.nk), [(0, 0, 16)]⟩], .quiet (mIndex 9)⟩,
      .base ⟨0, [.fact 16, .lit (.ci .u8 48)], [⟨.one (.lit (.cb true)), []⟩], .quiet (mBin .lss)⟩]
def ss_rp_blof : List Step := [.base ⟨0, [.fact 0], [⟨.one (.i), [(0, 0, 1)]⟩], .quiet (mLen 9)⟩,
      .base ⟨0, [.fact 1, .lit (.ci .i64 0)], [⟨.one (.lit (.cb true)), []⟩], .quiet (mBin .gtr)⟩,
      .base ⟨0, [.fact 0, .lit (.ci .i64 0)], [⟨.one (.nk), [(0, 0, 2)]⟩], .quiet (mIndex 9)⟩,
      .base ⟨0, [.fact 2, .lit (.ci .u8 45)], [⟨.one (.lit (.cb false)), []⟩], .quiet (mBin .eql)⟩,
      .base ⟨0, [.fact 0], [⟨.one (.i), [(0, 0, 3)]⟩], .quiet (mLen 9)⟩,
      .base ⟨0, [.fact 3, .lit (.ci .i64 1)], [⟨.one (.lit (.cb false)), []⟩], .quiet (mBin .lss)⟩,
      .base ⟨0, [.fact 0], [⟨.one (.i), [(0, 0, 4)]⟩], .quiet (mLen 9)⟩,
      .base ⟨0, [.fact 4, .lit (.ci .i64 400)], [⟨.one (.lit (.cb false)), []⟩], .quiet (mBin .gtr)⟩,
      .loop d_rp_blof [(r_rp_blof_0, [.from 13, .from 14])] o_rp_blof]
def ins_rp_blof : List Out := [⟨.one (.t), [(0, 0, 0)]⟩]
set_option maxRecDepth 100000 in
theorem rp_blof {s : ByteArray} {b : Nat} (h0 : 0 < s.size) (hc : (s.data.toList.getD 0 0).toNat ≠ 45) (_h1 : 1 ≤ s.size) (h400 : s.size ≤ 400) (hd : ∀ j, j < b → 48 ≤ (s.data.toList.getD j 0).toNat ∧ (s.data.toList.getD j 0).toNat ≤ 57) (hb : b < s.size) (h4 : (s.data.toList.getD b 0).toNat < 48)  : SiteOk (ph (b_rp_blof s)) Tryz.prog ⟨17, [.fact 0], [⟨.agg [.lit (.nl), .lit (.cb false)], []⟩, ⟨.one (.lit (.cb false)), []⟩], true⟩ :=
  fn_okL ins_rp_blof [⟨.agg [.lit (.nl), .lit (.cb false)], []⟩, ⟨.one (.lit (.cb false)), []⟩] ss_rp_blof Tryz.func17 (by kernel_rfl)
    (lbase (qLenS Tryz.underlying9 (fun _ _ h => h) rfl)
      (lbase (qTestN (op := .gtr) (fun _ _ h => h) (tst_run (decide_eq_true (by omega)) (by simp)))
      (lbase (qIndexSC 0 rfl Tryz.underlying9 (fun _ _ h => h) (h0) rfl)
      (lbase (qTestN (op := .eql) (fun _ _ h => h) (tst_run (tst45n hc) (by simp)))
      (lbase (qLenS Tryz.underlying9 (fun _ _ h => h) rfl)
      (lbase (qTestN (op := .lss) (fun _ _ h => h) (tst_run (decide_eq_false (by omega)) (by simp)))
      (lbase (qLenS Tryz.underlying9 (fun _ _ h => h) rfl)
      (lbase (qTestN (op := .gtr) (fun _ _ h => h) (tst_run (decide_eq_false (by omega)) (by simp)))
      (lloop (counted b (fun j => ph (b_rp_blof s ++ l_rp_blof s j)) (fun _ => 0) (fun j p hp => ph_app (show p < (b_rp_blof s).length from hp)) ⟨fun w => DecS.nil w, fun _ => rfl, trivial⟩ (fun j hj => ⟨(r_rp_blof_0, [.from 13, .from 14]), rfl, ⟨fun w v h => (by
        show DecS w v (decN 0 (s.data.toList.take (j + 1)))
        rw [decN_step (l := s.data.toList) (j := j) (by rw [← Lib.size_eq]; omega)]; exact h), fun _ _ h => (h : _ = Value.int .i64 ((j : Int) + 1)).trans (by simp), trivial⟩, (lbase (qLenS Tryz.underlying9 (fun _ _ h => h) rfl)
      (lbase (qTest (op := .lss) (fun _ _ h => h) (fun _ _ h => h) (tst_run (decide_eq_true (by omega)) (by simp)))
      (lbase (qIndexS Tryz.underlying9 (fun _ _ h => h) (fun _ _ h => h) ((by omega)) rfl)
      (lbase (qTestN (op := .lss) (fun _ _ h => h) (tst_run (decide_eq_false (by have := hd j hj; omega)) (by simp)))
      (lbase (qIndexS Tryz.underlying9 (fun _ _ h => h) (fun _ _ h => h) ((by omega)) rfl)
      (lbase (qTestN (op := .gtr) (fun _ _ h => h) (tst_run (decide_eq_false (by have := hd j hj; omega)) (by simp)))
      (lbase (qIndexS Tryz.underlying9 (fun _ _ h => h) (fun _ _ h => h) ((by omega)) rfl)
      (lbase (qSubN (fun _ _ h => h) (sub48 (hd j hj).1 (hd j hj).2) rfl)
      (lbase (qConvI (by kernel_rfl) Tryz.underlying3 (fun _ _ h => h) (by have := hd j hj; omega) (by have := hd j hj; omega) rfl)
      (lbase (tMulAdd 10 (by omega) (fun _ _ h => h) (fun _ _ h => h) (by have := hd j hj; omega) (dec_len400 hd (by omega) (by omega)) rfl)
      (lbase (qAddC' (fun _ _ h => h) rfl rfl (by omega) (by omega))
      lnil)))))))))))⟩)
      (lbase (qLenS Tryz.underlying9 (fun _ _ h => h) rfl)
      (lbase (qTest (op := .lss) (fun _ _ h => h) (fun _ _ h => h) (tst_run (decide_eq_true (by omega)) (by simp)))
      (lbase (qIndexS Tryz.underlying9 (fun _ _ h => h) (fun _ _ h => h) (hb) rfl)
      (lbase (qTestN (op := .lss) (fun _ _ h => h) (tst_run (decide_eq_true (by omega)) (by simp)))
      lnil))))
      (fun q hq => by cases hq)) lnil)))))))))
    (ins_ok [.fact 0 (.one (.t))] ⟨fun _ _ h => IsT h, trivial⟩) (fun _ _ _ h => h)

def b_rp_bhif (s : ByteArray) : List (World → Value → Prop) := [fun _ v => v = .string s, fun _ v => v = .int .i64 (s.size : Int), fun _ v => v = .int .u8 ((s.data.toList.getD 0 0).toNat : Int), fun _ v => v = .int .i64 (s.size : Int), fun _ v => v = .int .i64 (s.size : Int)]
def l_rp_bhif (s : ByteArray) (j : Nat) : List (World → Value → Prop) := [fun w v => DecS w v (decN 0 (s.data.toList.take j)), fun _ v => v = .int .i64 (j : Int), fun _ v => v = .int .i64 (s.size : Int), fun _ v => v = .int .u8 ((s.data.toList.getD j 0).toNat : Int), fun _ v => v = .int .u8 ((s.data.toList.getD j 0).toNat : Int), fun _ v => v = .int .u8 ((s.data.toList.getD j 0).toNat : Int), fun _ v => v = .int .u8 (((s.data.toList.getD j 0).toNat - 48 : Nat) : Int), fun _ v => v = .int .i64 (((s.data.toList.getD j 0).toNat - 48 : Nat) : Int), fun w v => DecS w v ((decN 0 (s.data.toList.take j)) * 10 + ((s.data.toList.getD j 0).toNat - 48)), fun _ v => v = .int .i64 ((j : Int) + 1), fun _ v => v = .int .i64 (s.size : Int), fun _ v => v = .int .u8 ((s.data.toList.getD j 0).toNat : Int), fun _ v => v = .int .u8 ((s.data.toList.getD j 0).toNat : Int)]
def d_rp_bhif : LoopD := ⟨[0, 2, 3, 4, 7, 8, 9, 10, 11, 12, 13, 14, 15, 18, 19, 20, 21, 22, 23, 24, 25], [(.slot 5, .s), (.slot 6, .i)], [(.one 0, 5), (.one 1, 6)], [.closed (.one (.nl)), .closed (.one (.ci .i64 0))], 5, []⟩
def r_rp_bhif_0 : List Step := [.base ⟨0, [.fact 0], [⟨.one (.i), [(0, 0, 7)]⟩], .quiet (mLen 9)⟩,
      .base ⟨0, [.fact 6, .fact 7], [⟨.one (.lit (.cb true)), []⟩], .quiet (mBin .lss)⟩,
      .base ⟨0, [.fact 0, .fact 6], [⟨.one (.nk), [(0, 0, 8)]⟩], .quiet (mIndex 9)⟩,
      .base ⟨0, [.fact 8, .lit (.ci .u8 48)], [⟨.one (.lit (.cb false)), []⟩], .quiet (mBin .lss)⟩,
      .base ⟨0, [.fact 0, .fact 6], [⟨.one (.nk), [(0, 0, 9)]⟩], .quiet (mIndex 9)⟩,
      .base ⟨0, [.fact 9, .lit (.ci .u8 57)], [⟨.one (.lit (.cb false)), []⟩], .quiet (mBin .gtr)⟩,
      .base ⟨0, [.fact 0, .fact 6], [⟨.one (.nk), [(0, 0, 10)]⟩], .quiet (mIndex 9)⟩,
      .base ⟨0, [.fact 10, .lit (.ci .u8 48)], [⟨.one (.nk), [(0, 0, 11)]⟩], .quiet (mBin .sub)⟩,
      .base ⟨0, [.fact 11], [⟨.one (.i), [(0, 0, 12)]⟩], .quiet (mConv 5 3)⟩,
      .base ⟨52, [.fact 5, .lit (.ci .i64 10), .fact 12], [⟨.one (.s), [(0, 0, 13)]⟩], false⟩,
      .base ⟨0, [.fact 6, .lit (.ci .i64 1)], [⟨.one (.i), [(0, 0, 14)]⟩], .quiet (mBin .add)⟩]
def o_rp_bhif : List Step := [.base ⟨0, [.fact 0], [⟨.one (.i), [(0, 0, 15)]⟩], .quiet (mLen 9)⟩,
      .base ⟨0, [.fact 6, .fact 15], [⟨.one (.lit (.cb true)), []⟩], .quiet (mBin .lss)⟩,
      .base ⟨0, [.fact 0, .fact 6], [⟨.one (.nk), [(0, 0, 16)]⟩], .quiet (mIndex 9)⟩,
      .base ⟨0, [.fact 16, .lit (.ci .u8 48)], [⟨.one (.lit (.cb false)), []⟩], .quiet (mBin .lss)⟩,
      .base ⟨0, [.fact 0, .fact 6], [⟨.one (.nk), [(0, 0, 17)]⟩], .quiet (mIndex 9)⟩,
      .base ⟨0, [.fact 17, .lit (.ci .u8 57)], [⟨.one (.lit (.cb true)), []⟩], .quiet (mBin .gtr)⟩]
def ss_rp_bhif : List Step := [.base ⟨0, [.fact 0], [⟨.one (.i), [(0, 0, 1)]⟩], .quiet (mLen 9)⟩,
      .base ⟨0, [.fact 1, .lit (.ci .i64 0)], [⟨.one (.lit (.cb true)), []⟩], .quiet (mBin .gtr)⟩,
      .base ⟨0, [.fact 0, .lit (.ci .i64 0)], [⟨.one (.nk), [(0, 0, 2)]⟩], .quiet (mIndex 9)⟩,
      .base ⟨0, [.fact 2, .lit (.ci .u8 45)], [⟨.one (.lit (.cb false)), []⟩], .quiet (mBin .eql)⟩,
      .base ⟨0, [.fact 0], [⟨.one (.i), [(0, 0, 3)]⟩], .quiet (mLen 9)⟩,
      .base ⟨0, [.fact 3, .lit (.ci .i64 1)], [⟨.one (.lit (.cb false)), []⟩], .quiet (mBin .lss)⟩,
      .base ⟨0, [.fact 0], [⟨.one (.i), [(0, 0, 4)]⟩], .quiet (mLen 9)⟩,
      .base ⟨0, [.fact 4, .lit (.ci .i64 400)], [⟨.one (.lit (.cb false)), []⟩], .quiet (mBin .gtr)⟩,
      .loop d_rp_bhif [(r_rp_bhif_0, [.from 13, .from 14])] o_rp_bhif]
def ins_rp_bhif : List Out := [⟨.one (.t), [(0, 0, 0)]⟩]
set_option maxRecDepth 100000 in
theorem rp_bhif {s : ByteArray} {b : Nat} (h0 : 0 < s.size) (hc : (s.data.toList.getD 0 0).toNat ≠ 45) (_h1 : 1 ≤ s.size) (h400 : s.size ≤ 400) (hd : ∀ j, j < b → 48 ≤ (s.data.toList.getD j 0).toNat ∧ (s.data.toList.getD j 0).toNat ≤ 57) (hb : b < s.size) (_h3 : ¬ (s.data.toList.getD b 0).toNat < 48) (h4 : 57 < (s.data.toList.getD b 0).toNat)  : SiteOk (ph (b_rp_bhif s)) Tryz.prog ⟨17, [.fact 0], [⟨.agg [.lit (.nl), .lit (.cb false)], []⟩, ⟨.one (.lit (.cb false)), []⟩], true⟩ :=
  fn_okL ins_rp_bhif [⟨.agg [.lit (.nl), .lit (.cb false)], []⟩, ⟨.one (.lit (.cb false)), []⟩] ss_rp_bhif Tryz.func17 (by kernel_rfl)
    (lbase (qLenS Tryz.underlying9 (fun _ _ h => h) rfl)
      (lbase (qTestN (op := .gtr) (fun _ _ h => h) (tst_run (decide_eq_true (by omega)) (by simp)))
      (lbase (qIndexSC 0 rfl Tryz.underlying9 (fun _ _ h => h) (h0) rfl)
      (lbase (qTestN (op := .eql) (fun _ _ h => h) (tst_run (tst45n hc) (by simp)))
      (lbase (qLenS Tryz.underlying9 (fun _ _ h => h) rfl)
      (lbase (qTestN (op := .lss) (fun _ _ h => h) (tst_run (decide_eq_false (by omega)) (by simp)))
      (lbase (qLenS Tryz.underlying9 (fun _ _ h => h) rfl)
      (lbase (qTestN (op := .gtr) (fun _ _ h => h) (tst_run (decide_eq_false (by omega)) (by simp)))
      (lloop (counted b (fun j => ph (b_rp_bhif s ++ l_rp_bhif s j)) (fun _ => 0) (fun j p hp => ph_app (show p < (b_rp_bhif s).length from hp)) ⟨fun w => DecS.nil w, fun _ => rfl, trivial⟩ (fun j hj => ⟨(r_rp_bhif_0, [.from 13, .from 14]), rfl, ⟨fun w v h => (by
        show DecS w v (decN 0 (s.data.toList.take (j + 1)))
        rw [decN_step (l := s.data.toList) (j := j) (by rw [← Lib.size_eq]; omega)]; exact h), fun _ _ h => (h : _ = Value.int .i64 ((j : Int) + 1)).trans (by simp), trivial⟩, (lbase (qLenS Tryz.underlying9 (fun _ _ h => h) rfl)
      (lbase (qTest (op := .lss) (fun _ _ h => h) (fun _ _ h => h) (tst_run (decide_eq_true (by omega)) (by simp)))
      (lbase (qIndexS Tryz.underlying9 (fun _ _ h => h) (fun _ _ h => h) ((by omega)) rfl)
      (lbase (qTestN (op := .lss) (fun _ _ h => h) (tst_run (decide_eq_false (by have := hd j hj; omega)) (by simp)))
      (lbase (qIndexS Tryz.underlying9 (fun _ _ h => h) (fun _ _ h => h) ((by omega)) rfl)
      (lbase (qTestN (op := .gtr) (fun _ _ h => h) (tst_run (decide_eq_false (by have := hd j hj; omega)) (by simp)))
      (lbase (qIndexS Tryz.underlying9 (fun _ _ h => h) (fun _ _ h => h) ((by omega)) rfl)
      (lbase (qSubN (fun _ _ h => h) (sub48 (hd j hj).1 (hd j hj).2) rfl)
      (lbase (qConvI (by kernel_rfl) Tryz.underlying3 (fun _ _ h => h) (by have := hd j hj; omega) (by have := hd j hj; omega) rfl)
      (lbase (tMulAdd 10 (by omega) (fun _ _ h => h) (fun _ _ h => h) (by have := hd j hj; omega) (dec_len400 hd (by omega) (by omega)) rfl)
      (lbase (qAddC' (fun _ _ h => h) rfl rfl (by omega) (by omega))
      lnil)))))))))))⟩)
      (lbase (qLenS Tryz.underlying9 (fun _ _ h => h) rfl)
      (lbase (qTest (op := .lss) (fun _ _ h => h) (fun _ _ h => h) (tst_run (decide_eq_true (by omega)) (by simp)))
      (lbase (qIndexS Tryz.underlying9 (fun _ _ h => h) (fun _ _ h => h) (hb) rfl)
      (lbase (qTestN (op := .lss) (fun _ _ h => h) (tst_run (decide_eq_false (by omega)) (by simp)))
      (lbase (qIndexS Tryz.underlying9 (fun _ _ h => h) (fun _ _ h => h) (hb) rfl)
      (lbase (qTestN (op := .gtr) (fun _ _ h => h) (tst_run (decide_eq_true (by omega)) (by simp)))
      lnil))))))
      (fun q hq => by cases hq)) lnil)))))))))
    (ins_ok [.fact 0 (.one (.t))] ⟨fun _ _ h => IsT h, trivial⟩) (fun _ _ _ h => h)

section
variable {Φ : Nat → World → Value → Prop} {p x : Nat} {s : ByteArray}
theorem tParse {z : Int} (hp : ∀ w v, Φ p w v → v = .string s) (h : isNum s.data.toList = true) (hz : sNum s.data.toList = z) (hx : Φ x = fun w v => DecI w v z 50) : SiteOk Φ Tryz.prog ⟨17, [.fact p], [⟨dS, [(0, 0, x)]⟩, ⟨.one (.lit (.cb true)), []⟩], true⟩ := by
  obtain ⟨h1, h2, h3⟩ := isN_all h
  unfold sNum at hz
  cases hm : minusB s.data.toList
  · obtain ⟨e, h4⟩ := plus_of hm
    rw [e] at h1 h2 h3
    rw [hm, if_neg (by simp), e] at hz
    rw [← Lib.size_eq] at h1 h2
    have h5 : 0 < s.size ∧ (s.data.toList.getD 0 0).toNat ≠ 45 := by
      rcases h4 with h4 | h4
      · omega
      · exact h4
    exact viaT (rp_okf h5.1 h5.2 h1 h2 (digs_of h3 (Lib.size_eq s)) (by simpa [sg] using hz)) (fun w v h => hp w v h) (outs_f (fun w v h => by rw [hx]; exact h))
  · obtain ⟨h4, h5, e⟩ := minus_of hm
    rw [← e, ← Lib.size_eq] at h1 h2
    rw [← e] at h3
    rw [hm, if_pos rfl, ← e] at hz
    exact viaT (rp_okt h4 h5 rfl h1 h2 (digs_of h3 (Lib.size_eq _)) (by simpa [sg] using hz)) (fun w v h => hp w v h) (outs_f (fun w v h => by rw [hx]; exact h))
theorem tParseNo (hp : ∀ w v, Φ p w v → v = .string s) (h : isNum s.data.toList = false) : SiteOk Φ Tryz.prog ⟨17, [.fact p], [⟨.agg [.lit .nl, .lit (.cb false)], []⟩, ⟨.one (.lit (.cb false)), []⟩], true⟩ := by
  unfold isNum isN at h
  cases hm : minusB s.data.toList
  · obtain ⟨e, h4⟩ := plus_of hm
    rw [e, ← Lib.size_eq] at h
    rcases h4 with h4 | ⟨h4, h5⟩
    · exact viaT (rp_e0 h4) (fun w v h => hp w v h) outs_2
    · by_cases h2 : 400 < s.size
      · exact viaT (rp_e2f h4 h5 h2) (fun w v h => hp w v h) outs_2
      · have h3 : allD s.data.toList = false := by
          rw [decide_eq_true (by omega), decide_eq_true (by omega)] at h
          simpa using h
        obtain ⟨b, hb, hd, h6⟩ := bad_at h3
        rw [← Lib.size_eq] at hb
        rcases h6 with h6 | ⟨h6, h7⟩
        · exact viaT (rp_blof h4 h5 (by omega) (by omega) hd hb h6) (fun w v h => hp w v h) outs_2
        · exact viaT (rp_bhif h4 h5 (by omega) (by omega) hd hb h6 h7) (fun w v h => hp w v h) outs_2
  · obtain ⟨h4, h5, e⟩ := minus_of hm
    rw [← e, ← Lib.size_eq] at h
    by_cases h1 : (s.extract 1 s.size).size < 1
    · exact viaT (rp_e1t h4 h5 rfl h1) (fun w v h => hp w v h) outs_2
    · by_cases h2 : 400 < (s.extract 1 s.size).size
      · exact viaT (rp_e2t h4 h5 rfl h2) (fun w v h => hp w v h) outs_2
      · have h3 : allD (s.extract 1 s.size).data.toList = false := by
          rw [decide_eq_true (by omega), decide_eq_true (by omega)] at h
          simpa using h
        obtain ⟨b, hb, hd, h6⟩ := bad_at h3
        rw [← Lib.size_eq] at hb
        rcases h6 with h6 | ⟨h6, h7⟩
        · exact viaT (rp_blot h4 h5 rfl (by omega) (by omega) hd hb h6) (fun w v h => hp w v h) outs_2
        · exact viaT (rp_bhit h4 h5 rfl (by omega) (by omega) hd hb h6 h7) (fun w v h => hp w v h) outs_2
end
end Go.Proofs.YtjakllpnbeagjaaGreatDoor.Sym
