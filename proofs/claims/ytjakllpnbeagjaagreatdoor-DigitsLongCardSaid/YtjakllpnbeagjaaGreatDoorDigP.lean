/- Package digits: Parse at every text. -/
import Derived.Test.YtjakllpnbeagjaaGreatDoorSymT
namespace Go.Proofs.YtjakllpnbeagjaaGreatDoor.Sym
open Go.RowKit
def phi_parse_e1t (s t : ByteArray) : List (World → Value → Prop) := [fun _ v => v = .string s, fun _ v => v = .string t, fun _ v => v = .int .i64 (t.size : Int)]
def ins_parse_e1t : List Out := [⟨.one (.t), [(0, 0, 0)]⟩]
def ss_parse_e1t : List Site := [⟨48, [.fact 0, .lit (.cs [45])], [⟨.one (.t), [(0, 0, 1)]⟩, ⟨.one (.lit (.cb true)), []⟩], true⟩,
      ⟨0, [.fact 1], [⟨.one (.i), [(0, 0, 2)]⟩], .quiet (mLen 9)⟩,
      ⟨0, [.fact 2, .lit (.ci .i64 1)], [⟨.one (.lit (.cb true)), []⟩], .quiet (mBin .lss)⟩]
set_option maxRecDepth 100000 in
theorem parse_e1t {s t : ByteArray} (ht : unsig s.data.toList = t.data.toList) (hm : minusB s.data.toList = true) (h1 : t.size < 1) : SiteOk (ph (phi_parse_e1t s t)) Tryz.prog ⟨16, [.fact 0], [⟨.agg [.lit (.cb false), .lit (.nl)], []⟩, ⟨.one (.lit (.ci .i64 4)), []⟩], true⟩ :=
  fn_ok ins_parse_e1t [⟨.agg [.lit (.cb false), .lit (.nl)], []⟩, ⟨.one (.lit (.ci .i64 4)), []⟩] ss_parse_e1t Tryz.func16 (by kernel_rfl)
    (all_cons (sCutPrefix (fun _ _ h => h) ht hm rfl)
      (all_cons (qLenS Tryz.underlying9 (fun _ _ h => h) rfl)
      (all_cons (qTestN (op := .lss) (fun _ _ h => h) (tst_run (decide_eq_true (by omega)) (by simp)))
      all_nil)))
    (ins_ok [.fact 0 (.one (.t))] ⟨fun _ _ h => IsT h, trivial⟩) (fun _ _ _ h => h)

def phi_parse_e2t (s t : ByteArray) : List (World → Value → Prop) := [fun _ v => v = .string s, fun _ v => v = .string t, fun _ v => v = .int .i64 (t.size : Int), fun _ v => v = .int .i64 (t.size : Int)]
def ins_parse_e2t : List Out := [⟨.one (.t), [(0, 0, 0)]⟩]
def ss_parse_e2t : List Site := [⟨48, [.fact 0, .lit (.cs [45])], [⟨.one (.t), [(0, 0, 1)]⟩, ⟨.one (.lit (.cb true)), []⟩], true⟩,
      ⟨0, [.fact 1], [⟨.one (.i), [(0, 0, 2)]⟩], .quiet (mLen 9)⟩,
      ⟨0, [.fact 2, .lit (.ci .i64 1)], [⟨.one (.lit (.cb false)), []⟩], .quiet (mBin .lss)⟩,
      ⟨0, [.fact 1], [⟨.one (.i), [(0, 0, 3)]⟩], .quiet (mLen 9)⟩,
      ⟨0, [.fact 3, .lit (.ci .i64 400)], [⟨.one (.lit (.cb true)), []⟩], .quiet (mBin .gtr)⟩]
set_option maxRecDepth 100000 in
theorem parse_e2t {s t : ByteArray} (ht : unsig s.data.toList = t.data.toList) (hm : minusB s.data.toList = true) (h1 : 400 < t.size) : SiteOk (ph (phi_parse_e2t s t)) Tryz.prog ⟨16, [.fact 0], [⟨.agg [.lit (.cb false), .lit (.nl)], []⟩, ⟨.one (.lit (.ci .i64 4)), []⟩], true⟩ :=
  fn_ok ins_parse_e2t [⟨.agg [.lit (.cb false), .lit (.nl)], []⟩, ⟨.one (.lit (.ci .i64 4)), []⟩] ss_parse_e2t Tryz.func16 (by kernel_rfl)
    (all_cons (sCutPrefix (fun _ _ h => h) ht hm rfl)
      (all_cons (qLenS Tryz.underlying9 (fun _ _ h => h) rfl)
      (all_cons (qTestN (op := .lss) (fun _ _ h => h) (tst_run (decide_eq_false (by omega)) (by simp)))
      (all_cons (qLenS Tryz.underlying9 (fun _ _ h => h) rfl)
      (all_cons (qTestN (op := .gtr) (fun _ _ h => h) (tst_run (decide_eq_true (by omega)) (by simp)))
      all_nil)))))
    (ins_ok [.fact 0 (.one (.t))] ⟨fun _ _ h => IsT h, trivial⟩) (fun _ _ _ h => h)

def phi_parse_e3t (s t : ByteArray) : List (World → Value → Prop) := [fun _ v => v = .string s, fun _ v => v = .string t, fun _ v => v = .int .i64 (t.size : Int), fun _ v => v = .int .i64 (t.size : Int)]
def ins_parse_e3t : List Out := [⟨.one (.t), [(0, 0, 0)]⟩]
def ss_parse_e3t : List Site := [⟨48, [.fact 0, .lit (.cs [45])], [⟨.one (.t), [(0, 0, 1)]⟩, ⟨.one (.lit (.cb true)), []⟩], true⟩,
      ⟨0, [.fact 1], [⟨.one (.i), [(0, 0, 2)]⟩], .quiet (mLen 9)⟩,
      ⟨0, [.fact 2, .lit (.ci .i64 1)], [⟨.one (.lit (.cb false)), []⟩], .quiet (mBin .lss)⟩,
      ⟨0, [.fact 1], [⟨.one (.i), [(0, 0, 3)]⟩], .quiet (mLen 9)⟩,
      ⟨0, [.fact 3, .lit (.ci .i64 400)], [⟨.one (.lit (.cb false)), []⟩], .quiet (mBin .gtr)⟩,
      ⟨49, [.fact 1], [⟨.one (.lit (.cb false)), []⟩], false⟩]
set_option maxRecDepth 100000 in
theorem parse_e3t {s t : ByteArray} (ht : unsig s.data.toList = t.data.toList) (hm : minusB s.data.toList = true) (h1 : 1 ≤ t.size) (h2 : t.size ≤ 400) (h3 : allD t.data.toList = false) : SiteOk (ph (phi_parse_e3t s t)) Tryz.prog ⟨16, [.fact 0], [⟨.agg [.lit (.cb false), .lit (.nl)], []⟩, ⟨.one (.lit (.ci .i64 4)), []⟩], true⟩ :=
  fn_ok ins_parse_e3t [⟨.agg [.lit (.cb false), .lit (.nl)], []⟩, ⟨.one (.lit (.ci .i64 4)), []⟩] ss_parse_e3t Tryz.func16 (by kernel_rfl)
    (all_cons (sCutPrefix (fun _ _ h => h) ht hm rfl)
      (all_cons (qLenS Tryz.underlying9 (fun _ _ h => h) rfl)
      (all_cons (qTestN (op := .lss) (fun _ _ h => h) (tst_run (decide_eq_false (by omega)) (by simp)))
      (all_cons (qLenS Tryz.underlying9 (fun _ _ h => h) rfl)
      (all_cons (qTestN (op := .gtr) (fun _ _ h => h) (tst_run (decide_eq_false (by omega)) (by simp)))
      (all_cons (sAllDigits (fun _ _ h => h) (by omega) h3)
      all_nil))))))
    (ins_ok [.fact 0 (.one (.t))] ⟨fun _ _ h => IsT h, trivial⟩) (fun _ _ _ h => h)

def phi_parse_t (s t : ByteArray) (z : Int) : List (World → Value → Prop) := [fun _ v => v = .string s, fun _ v => v = .string t, fun _ v => v = .int .i64 (t.size : Int), fun _ v => v = .int .i64 (t.size : Int), fun w v => NorV w v z 50, fun w v => NorV w v (-z) 50]
def ins_parse_t : List Out := [⟨.one (.t), [(0, 0, 0)]⟩]
def ss_parse_t : List Site := [⟨48, [.fact 0, .lit (.cs [45])], [⟨.one (.t), [(0, 0, 1)]⟩, ⟨.one (.lit (.cb true)), []⟩], true⟩,
      ⟨0, [.fact 1], [⟨.one (.i), [(0, 0, 2)]⟩], .quiet (mLen 9)⟩,
      ⟨0, [.fact 2, .lit (.ci .i64 1)], [⟨.one (.lit (.cb false)), []⟩], .quiet (mBin .lss)⟩,
      ⟨0, [.fact 1], [⟨.one (.i), [(0, 0, 3)]⟩], .quiet (mLen 9)⟩,
      ⟨0, [.fact 3, .lit (.ci .i64 400)], [⟨.one (.lit (.cb false)), []⟩], .quiet (mBin .gtr)⟩,
      ⟨49, [.fact 1], [⟨.one (.lit (.cb true)), []⟩], false⟩,
      ⟨50, [.fact 1], [⟨.agg [.b, .s], [(0, 0, 4)]⟩], false⟩,
      ⟨51, [.fact 4], [⟨.agg [.b, .s], [(0, 0, 5)]⟩], false⟩]
set_option maxRecDepth 100000 in
theorem parse_t {s t : ByteArray} {z : Int} (ht : unsig s.data.toList = t.data.toList) (hm : minusB s.data.toList = true) (h1 : 1 ≤ t.size) (h2 : t.size ≤ 400) (h3 : allD t.data.toList = true) (hz : (decN 0 t.data.toList : Int) = z) : SiteOk (ph (phi_parse_t s t z)) Tryz.prog ⟨16, [.fact 0], [⟨.agg [.b, .s], [(0, 0, 5)]⟩, ⟨.one (.lit (.ci .i64 0)), []⟩], true⟩ :=
  fn_ok ins_parse_t [⟨.agg [.b, .s], [(0, 0, 5)]⟩, ⟨.one (.lit (.ci .i64 0)), []⟩] ss_parse_t Tryz.func16 (by kernel_rfl)
    (all_cons (sCutPrefix (fun _ _ h => h) ht hm rfl)
      (all_cons (qLenS Tryz.underlying9 (fun _ _ h => h) rfl)
      (all_cons (qTestN (op := .lss) (fun _ _ h => h) (tst_run (decide_eq_false (by omega)) (by simp)))
      (all_cons (qLenS Tryz.underlying9 (fun _ _ h => h) rfl)
      (all_cons (qTestN (op := .gtr) (fun _ _ h => h) (tst_run (decide_eq_false (by omega)) (by simp)))
      (all_cons (sAllDigits (fun _ _ h => h) (by omega) h3)
      (all_cons (sValue (fun _ _ h => h) (by omega) h3 hz rfl)
      (all_cons (sNeg nI rfl (by omega) rfl)
      all_nil))))))))
    (ins_ok [.fact 0 (.one (.t))] ⟨fun _ _ h => IsT h, trivial⟩) (fun _ _ _ h => h)

def phi_parse_e1f (s t : ByteArray) : List (World → Value → Prop) := [fun _ v => v = .string s, fun _ v => v = .string t, fun _ v => v = .int .i64 (t.size : Int)]
def ins_parse_e1f : List Out := [⟨.one (.t), [(0, 0, 0)]⟩]
def ss_parse_e1f : List Site := [⟨48, [.fact 0, .lit (.cs [45])], [⟨.one (.t), [(0, 0, 1)]⟩, ⟨.one (.lit (.cb false)), []⟩], true⟩,
      ⟨0, [.fact 1], [⟨.one (.i), [(0, 0, 2)]⟩], .quiet (mLen 9)⟩,
      ⟨0, [.fact 2, .lit (.ci .i64 1)], [⟨.one (.lit (.cb true)), []⟩], .quiet (mBin .lss)⟩]
set_option maxRecDepth 100000 in
theorem parse_e1f {s t : ByteArray} (ht : unsig s.data.toList = t.data.toList) (hm : minusB s.data.toList = false) (h1 : t.size < 1) : SiteOk (ph (phi_parse_e1f s t)) Tryz.prog ⟨16, [.fact 0], [⟨.agg [.lit (.cb false), .lit (.nl)], []⟩, ⟨.one (.lit (.ci .i64 4)), []⟩], true⟩ :=
  fn_ok ins_parse_e1f [⟨.agg [.lit (.cb false), .lit (.nl)], []⟩, ⟨.one (.lit (.ci .i64 4)), []⟩] ss_parse_e1f Tryz.func16 (by kernel_rfl)
    (all_cons (sCutPrefix (fun _ _ h => h) ht hm rfl)
      (all_cons (qLenS Tryz.underlying9 (fun _ _ h => h) rfl)
      (all_cons (qTestN (op := .lss) (fun _ _ h => h) (tst_run (decide_eq_true (by omega)) (by simp)))
      all_nil)))
    (ins_ok [.fact 0 (.one (.t))] ⟨fun _ _ h => IsT h, trivial⟩) (fun _ _ _ h => h)

def phi_parse_e2f (s t : ByteArray) : List (World → Value → Prop) := [fun _ v => v = .string s, fun _ v => v = .string t, fun _ v => v = .int .i64 (t.size : Int), fun _ v => v = .int .i64 (t.size : Int)]
def ins_parse_e2f : List Out := [⟨.one (.t), [(0, 0, 0)]⟩]
def ss_parse_e2f : List Site := [⟨48, [.fact 0, .lit (.cs [45])], [⟨.one (.t), [(0, 0, 1)]⟩, ⟨.one (.lit (.cb false)), []⟩], true⟩,
      ⟨0, [.fact 1], [⟨.one (.i), [(0, 0, 2)]⟩], .quiet (mLen 9)⟩,
      ⟨0, [.fact 2, .lit (.ci .i64 1)], [⟨.one (.lit (.cb false)), []⟩], .quiet (mBin .lss)⟩,
      ⟨0, [.fact 1], [⟨.one (.i), [(0, 0, 3)]⟩], .quiet (mLen 9)⟩,
      ⟨0, [.fact 3, .lit (.ci .i64 400)], [⟨.one (.lit (.cb true)), []⟩], .quiet (mBin .gtr)⟩]
set_option maxRecDepth 100000 in
theorem parse_e2f {s t : ByteArray} (ht : unsig s.data.toList = t.data.toList) (hm : minusB s.data.toList = false) (h1 : 400 < t.size) : SiteOk (ph (phi_parse_e2f s t)) Tryz.prog ⟨16, [.fact 0], [⟨.agg [.lit (.cb false), .lit (.nl)], []⟩, ⟨.one (.lit (.ci .i64 4)), []⟩], true⟩ :=
  fn_ok ins_parse_e2f [⟨.agg [.lit (.cb false), .lit (.nl)], []⟩, ⟨.one (.lit (.ci .i64 4)), []⟩] ss_parse_e2f Tryz.func16 (by kernel_rfl)
    (all_cons (sCutPrefix (fun _ _ h => h) ht hm rfl)
      (all_cons (qLenS Tryz.underlying9 (fun _ _ h => h) rfl)
      (all_cons (qTestN (op := .lss) (fun _ _ h => h) (tst_run (decide_eq_false (by omega)) (by simp)))
      (all_cons (qLenS Tryz.underlying9 (fun _ _ h => h) rfl)
      (all_cons (qTestN (op := .gtr) (fun _ _ h => h) (tst_run (decide_eq_true (by omega)) (by simp)))
      all_nil)))))
    (ins_ok [.fact 0 (.one (.t))] ⟨fun _ _ h => IsT h, trivial⟩) (fun _ _ _ h => h)

def phi_parse_e3f (s t : ByteArray) : List (World → Value → Prop) := [fun _ v => v = .string s, fun _ v => v = .string t, fun _ v => v = .int .i64 (t.size : Int), fun _ v => v = .int .i64 (t.size : Int)]
def ins_parse_e3f : List Out := [⟨.one (.t), [(0, 0, 0)]⟩]
def ss_parse_e3f : List Site := [⟨48, [.fact 0, .lit (.cs [45])], [⟨.one (.t), [(0, 0, 1)]⟩, ⟨.one (.lit (.cb false)), []⟩], true⟩,
      ⟨0, [.fact 1], [⟨.one (.i), [(0, 0, 2)]⟩], .quiet (mLen 9)⟩,
      ⟨0, [.fact 2, .lit (.ci .i64 1)], [⟨.one (.lit (.cb false)), []⟩], .quiet (mBin .lss)⟩,
      ⟨0, [.fact 1], [⟨.one (.i), [(0, 0, 3)]⟩], .quiet (mLen 9)⟩,
      ⟨0, [.fact 3, .lit (.ci .i64 400)], [⟨.one (.lit (.cb false)), []⟩], .quiet (mBin .gtr)⟩,
      ⟨49, [.fact 1], [⟨.one (.lit (.cb false)), []⟩], false⟩]
set_option maxRecDepth 100000 in
theorem parse_e3f {s t : ByteArray} (ht : unsig s.data.toList = t.data.toList) (hm : minusB s.data.toList = false) (h1 : 1 ≤ t.size) (h2 : t.size ≤ 400) (h3 : allD t.data.toList = false) : SiteOk (ph (phi_parse_e3f s t)) Tryz.prog ⟨16, [.fact 0], [⟨.agg [.lit (.cb false), .lit (.nl)], []⟩, ⟨.one (.lit (.ci .i64 4)), []⟩], true⟩ :=
  fn_ok ins_parse_e3f [⟨.agg [.lit (.cb false), .lit (.nl)], []⟩, ⟨.one (.lit (.ci .i64 4)), []⟩] ss_parse_e3f Tryz.func16 (by kernel_rfl)
    (all_cons (sCutPrefix (fun _ _ h => h) ht hm rfl)
      (all_cons (qLenS Tryz.underlying9 (fun _ _ h => h) rfl)
      (all_cons (qTestN (op := .lss) (fun _ _ h => h) (tst_run (decide_eq_false (by omega)) (by simp)))
      (all_cons (qLenS Tryz.underlying9 (fun _ _ h => h) rfl)
      (all_cons (qTestN (op := .gtr) (fun _ _ h => h) (tst_run (decide_eq_false (by omega)) (by simp)))
      (all_cons (sAllDigits (fun _ _ h => h) (by omega) h3)
      all_nil))))))
    (ins_ok [.fact 0 (.one (.t))] ⟨fun _ _ h => IsT h, trivial⟩) (fun _ _ _ h => h)

def phi_parse_f (s t : ByteArray) (z : Int) : List (World → Value → Prop) := [fun _ v => v = .string s, fun _ v => v = .string t, fun _ v => v = .int .i64 (t.size : Int), fun _ v => v = .int .i64 (t.size : Int), fun w v => NorV w v z 50]
def ins_parse_f : List Out := [⟨.one (.t), [(0, 0, 0)]⟩]
def ss_parse_f : List Site := [⟨48, [.fact 0, .lit (.cs [45])], [⟨.one (.t), [(0, 0, 1)]⟩, ⟨.one (.lit (.cb false)), []⟩], true⟩,
      ⟨0, [.fact 1], [⟨.one (.i), [(0, 0, 2)]⟩], .quiet (mLen 9)⟩,
      ⟨0, [.fact 2, .lit (.ci .i64 1)], [⟨.one (.lit (.cb false)), []⟩], .quiet (mBin .lss)⟩,
      ⟨0, [.fact 1], [⟨.one (.i), [(0, 0, 3)]⟩], .quiet (mLen 9)⟩,
      ⟨0, [.fact 3, .lit (.ci .i64 400)], [⟨.one (.lit (.cb false)), []⟩], .quiet (mBin .gtr)⟩,
      ⟨49, [.fact 1], [⟨.one (.lit (.cb true)), []⟩], false⟩,
      ⟨50, [.fact 1], [⟨.agg [.b, .s], [(0, 0, 4)]⟩], false⟩]
set_option maxRecDepth 100000 in
theorem parse_f {s t : ByteArray} {z : Int} (ht : unsig s.data.toList = t.data.toList) (hm : minusB s.data.toList = false) (h1 : 1 ≤ t.size) (h2 : t.size ≤ 400) (h3 : allD t.data.toList = true) (hz : (decN 0 t.data.toList : Int) = z) : SiteOk (ph (phi_parse_f s t z)) Tryz.prog ⟨16, [.fact 0], [⟨.agg [.b, .s], [(0, 0, 4)]⟩, ⟨.one (.lit (.ci .i64 0)), []⟩], true⟩ :=
  fn_ok ins_parse_f [⟨.agg [.b, .s], [(0, 0, 4)]⟩, ⟨.one (.lit (.ci .i64 0)), []⟩] ss_parse_f Tryz.func16 (by kernel_rfl)
    (all_cons (sCutPrefix (fun _ _ h => h) ht hm rfl)
      (all_cons (qLenS Tryz.underlying9 (fun _ _ h => h) rfl)
      (all_cons (qTestN (op := .lss) (fun _ _ h => h) (tst_run (decide_eq_false (by omega)) (by simp)))
      (all_cons (qLenS Tryz.underlying9 (fun _ _ h => h) rfl)
      (all_cons (qTestN (op := .gtr) (fun _ _ h => h) (tst_run (decide_eq_false (by omega)) (by simp)))
      (all_cons (sAllDigits (fun _ _ h => h) (by omega) h3)
      (all_cons (sValue (fun _ _ h => h) (by omega) h3 hz rfl)
      all_nil)))))))
    (ins_ok [.fact 0 (.one (.t))] ⟨fun _ _ h => IsT h, trivial⟩) (fun _ _ _ h => h)

/-- A contract told of one argument, in one list of predicates, told in another. -/
theorem viaT {P : Program} {Φ Ψ : Nat → World → Value → Prop} {f : FuncId} {p : Nat} {outs outs' : List Out} {tup : Bool} (h : SiteOk Ψ P ⟨f, [.fact 0], outs', tup⟩) (hp : ∀ w v, Φ p w v → Ψ 0 w v) (ho : ∀ (X : Nat → Prop) (w : World) (us : List Value), outsOk Ψ X w outs' us → outsOk Φ X w outs us) : SiteOk Φ P ⟨f, [.fact p], outs, tup⟩ :=
  fun X w vs hX h' => by
    match vs, h' with
    | [v], h' => exact (h X w [v] hX ⟨fun w1 hw => hp _ _ (h'.1 w1 hw), trivial⟩).mono fun _ w' ⟨hg, us, he, h2⟩ => ⟨hg, us, he, ho X w' us h2⟩
theorem outs_2 {Φ Ψ : Nat → World → Value → Prop} {s1 s2 : CSh} (X : Nat → Prop) (w : World) (us : List Value) (h : outsOk Ψ X w [⟨s1, []⟩, ⟨s2, []⟩] us) : outsOk Φ X w [⟨s1, []⟩, ⟨s2, []⟩] us := by
  match us, h with
  | [a, b], h => exact ⟨⟨h.1.1, fun q hq => by cases hq⟩, ⟨h.2.1.1, fun q hq => by cases hq⟩, trivial⟩
theorem outs_f {Φ Ψ : Nat → World → Value → Prop} {s1 s2 : CSh} {i j : Nat} (hij : ∀ w v, Ψ i w v → Φ j w v) (X : Nat → Prop) (w : World) (us : List Value) (h : outsOk Ψ X w [⟨s1, [(0, 0, i)]⟩, ⟨s2, []⟩] us) : outsOk Φ X w [⟨s1, [(0, 0, j)]⟩, ⟨s2, []⟩] us := by
  match us, h with
  | [a, b], h =>
    refine ⟨⟨h.1.1, fun q hq w1 hw => ?_⟩, ⟨h.2.1.1, fun q hq => by cases hq⟩, trivial⟩
    simp only [List.mem_singleton] at hq; subst hq
    exact hij _ _ (h.1.2 (0, 0, i) (List.mem_singleton.2 rfl) w1 hw)
theorem tail_of (s : ByteArray) : ∃ t : ByteArray, unsig s.data.toList = t.data.toList ∧ t.size = (unsig s.data.toList).length := ⟨⟨(unsig s.data.toList).toArray⟩, rfl, by rw [Lib.size_eq]⟩
section
variable {Φ : Nat → World → Value → Prop} {p x : Nat} {s : ByteArray}
theorem sDParseNo (hp : ∀ w v, Φ p w v → v = .string s) (h : isNum s.data.toList = false) : SiteOk Φ Tryz.prog ⟨16, [.fact p], [⟨.agg [.lit (.cb false), .lit .nl], []⟩, ⟨.one (.lit (.ci .i64 4)), []⟩], true⟩ := by
  obtain ⟨t, ht, hl⟩ := tail_of s
  unfold isNum isN at h
  rw [← hl, ht] at h
  cases hm : minusB s.data.toList
  all_goals
    by_cases h1 : t.size < 1
    · first
      | exact viaT (parse_e1t ht hm h1) (fun w v h => hp w v h) outs_2
      | exact viaT (parse_e1f ht hm h1) (fun w v h => hp w v h) outs_2
    · by_cases h2 : 400 < t.size
      · first
        | exact viaT (parse_e2t ht hm h2) (fun w v h => hp w v h) outs_2
        | exact viaT (parse_e2f ht hm h2) (fun w v h => hp w v h) outs_2
      · have h3 : allD t.data.toList = false := by
          rw [decide_eq_true (by omega), decide_eq_true (by omega)] at h
          simpa using h
        first
        | exact viaT (parse_e3t ht hm (by omega) (by omega) h3) (fun w v h => hp w v h) outs_2
        | exact viaT (parse_e3f ht hm (by omega) (by omega) h3) (fun w v h => hp w v h) outs_2
theorem sDParse {z : Int} (hp : ∀ w v, Φ p w v → v = .string s) (h : isNum s.data.toList = true) (hz : sNum s.data.toList = z) (hx : Φ x = fun w v => NorV w v z 50) : SiteOk Φ Tryz.prog ⟨16, [.fact p], [⟨iS, [(0, 0, x)]⟩, ⟨.one (.lit (.ci .i64 0)), []⟩], true⟩ := by
  obtain ⟨t, ht, hl⟩ := tail_of s
  obtain ⟨h1, h2, h3⟩ := isN_all h
  rw [← hl] at h1 h2
  rw [ht] at h3
  unfold sNum at hz
  rw [ht] at hz
  cases hm : minusB s.data.toList
  · rw [hm, if_neg (by simp)] at hz
    exact viaT (parse_f ht hm h1 h2 h3 hz) (fun w v h => hp w v h) (outs_f (fun w v h => by rw [hx]; exact h))
  · rw [hm, if_pos rfl] at hz
    exact viaT (parse_t ht hm h1 h2 h3 rfl) (fun w v h => hp w v h) (outs_f (fun w v h => by rw [hx, ← hz]; exact h))
end
end Go.Proofs.YtjakllpnbeagjaaGreatDoor.Sym
