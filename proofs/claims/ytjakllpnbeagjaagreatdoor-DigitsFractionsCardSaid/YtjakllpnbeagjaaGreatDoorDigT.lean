/- The reference's Text and Fraction as calls. -/
import Derived.Test.YtjakllpnbeagjaaGreatDoorDigX
import Derived.Test.YtjakllpnbeagjaaGreatDoorRefT
namespace Go.Proofs.YtjakllpnbeagjaaGreatDoor.Sym
open Go.RowKit
section
variable {Φ : Nat → World → Value → Prop} {p q x x' i j k : Nat} {z y : Int}
theorem tText (hp : ∀ w v, Φ p w v → DecI w v z k) (hk : k ≤ 1000) (hx : Φ x = fun _ v => v = .string (txtS z)) : SiteOk Φ Tryz.prog ⟨13, [.fact p], [⟨.one .t, [(0, 0, x)]⟩], false⟩ :=
  site1 fun _ _ _ h => (RText_any (hp _ _ (get h)) hk).mono fun _ _ h => pstT hx h
theorem tCmp {r : Int} (hp : ∀ w v, Φ p w v → DecI w v z i) (hq : ∀ w v, Φ q w v → DecI w v y j) (hi : i + j ≤ 1000000) (hr : cmpI z y = r) : SiteOk Φ Tryz.prog ⟨59, [.fact p, .fact q], [⟨.one (.lit (.ci .i64 r)), []⟩], false⟩ :=
  site2 fun _ _ _ _ h0 h1 => (Cmp_r r (hp _ _ (get h0)) (hq _ _ (get h1)) hi hr).mono fun _ _ h => pstZ h
theorem sKRatL (k : Nat) {ki z u : Int} {b b' : Bool} {xs ys : List Nat} (hki : (k : Int) = ki) (hp : ∀ w v, Φ p w v → RawQ w v b xs b' ys) (hx : Φ x = fun w v => RawQ w v b (xs.take k) b' (ys.take k)) (hx' : Φ x' = fun w v => QV w v z u k) (hz : sg b (Proofs.YtjakllpnbeagjaaGreatDoor.val 4294967296 (xs.take k)) = z) (hu : sg b' (Proofs.YtjakllpnbeagjaaGreatDoor.val 4294967296 (ys.take k)) = u) : SiteOk Φ Tryz.prog ⟨22, [.fact p, .lit (.ci .i64 ki)], [⟨qS, [(0, 0, x), (0, 0, x')]⟩], false⟩ :=
  site2 fun _ w v c h0 h1 => by
    subst hki
    obtain rfl : c = .int .i64 k := h1
    exact back1 (kratw (k := k) hz hu) (vs := [v, .int .i64 k]) ⟨arg_kp rfl (fun _ _ _ g h => RawQ.kp h g) (hp _ _ (get h0)), fun _ _ => rfl, trivial⟩ fun a w' hg hs f => ⟨hg, [a], rfl, ⟨hs, fun q hq w1 hw => by
      have r1 : RawQ w' a b (xs.take k) b' (ys.take k) := f (0, 0, 8) (by simp)
      have r2 : QV w' a z u k := f (0, 0, 9) (by simp)
      simp only [List.mem_cons, List.not_mem_nil, or_false] at hq
      rcases hq with rfl | rfl
      · show Φ x w1 _; rw [hx]; exact RawQ.kp r1 hw.1
      · show Φ x' w1 _; rw [hx']; exact QV.kp r2 hw.1⟩, trivial⟩
end
def phi_rfrac_1 (q : Rat) (k : Nat) : List (World → Value → Prop) := [fun w v => DecQ w v q k, fun w v => DecI w v q.num k, fun w v => DecI w v (q.den : Int) k, fun w v => DecI w v (1 : Int) 2, fun _ v => v = .string (txtS q.num)]
def ins_rfrac_1 : List Out := [⟨.agg [.s, .b, .s, .b], [(0, 0, 0), (0, 2, 1), (2, 2, 2)]⟩]
def ss_rfrac_1 : List Site := [⟨47, [.lit (.ci .i64 1)], [⟨.agg [.s, .b], [(0, 0, 3)]⟩], false⟩,
      ⟨59, [.fact 2, .fact 3], [⟨.one (.lit (.ci .i64 0)), []⟩], false⟩,
      ⟨13, [.fact 1], [⟨.one (.t), [(0, 0, 4)]⟩], false⟩]
set_option maxRecDepth 100000 in
theorem rfrac_1 {q : Rat} {k : Nat} (hk : k ≤ 990) (h1 : q.den = 1) : SiteOk (ph (phi_rfrac_1 q k)) Tryz.prog ⟨26, [.fact 0], [⟨.one (.t), [(0, 0, 4)]⟩], false⟩ :=
  fn_ok ins_rfrac_1 [⟨.one (.t), [(0, 0, 4)]⟩] ss_rfrac_1 Tryz.func26 (by kernel_rfl)
    (all_cons (tOf (z := 1) rfl (by decide) (by decide) rfl)
      (all_cons (tCmp dD dD (by omega) (by rw [h1]; rfl))
      (all_cons (tText dD (by omega) rfl)
      all_nil)))
    (ins_ok [.sub 0 (.agg [.s, .b, .s, .b]) [(0, 2, 1), (2, 2, 2)]] ⟨⟨fun _ _ h => DecQ.is h, fun _ _ h => DecQ.fst h, fun _ _ h => DecQ.snd h, trivial⟩, trivial⟩) (fun _ _ _ h => h)

def phi_rfrac_n (q : Rat) (k : Nat) : List (World → Value → Prop) := [fun w v => DecQ w v q k, fun w v => DecI w v q.num k, fun w v => DecI w v (q.den : Int) k, fun w v => DecI w v (1 : Int) 2, fun _ v => v = .string (txtS q.num), fun _ v => v = .string (txtS q.num ++ ⟨[47].toArray⟩), fun _ v => v = .string (txtS (q.den : Int)), fun _ v => v = .string (fracS q)]
def ins_rfrac_n : List Out := [⟨.agg [.s, .b, .s, .b], [(0, 0, 0), (0, 2, 1), (2, 2, 2)]⟩]
def ss_rfrac_n : List Site := [⟨47, [.lit (.ci .i64 1)], [⟨.agg [.s, .b], [(0, 0, 3)]⟩], false⟩,
      ⟨59, [.fact 2, .fact 3], [⟨.one (.lit (.ci .i64 1)), []⟩], false⟩,
      ⟨13, [.fact 1], [⟨.one (.t), [(0, 0, 4)]⟩], false⟩,
      ⟨0, [.fact 4, .lit (.cs [47])], [⟨.one (.t), [(0, 0, 5)]⟩], .quiet (mBin .add)⟩,
      ⟨13, [.fact 2], [⟨.one (.t), [(0, 0, 6)]⟩], false⟩,
      ⟨0, [.fact 5, .fact 6], [⟨.one (.t), [(0, 0, 7)]⟩], .quiet (mBin .add)⟩]
set_option maxRecDepth 100000 in
theorem rfrac_n {q : Rat} {k : Nat} (hk : k ≤ 990) (h1 : q.den ≠ 1) (hn : (txtS q.num).size ≤ 20000) (hd : (txtS (q.den : Int)).size ≤ 20000) : SiteOk (ph (phi_rfrac_n q k)) Tryz.prog ⟨26, [.fact 0], [⟨.one (.t), [(0, 0, 7)]⟩], false⟩ :=
  fn_ok ins_rfrac_n [⟨.one (.t), [(0, 0, 7)]⟩] ss_rfrac_n Tryz.func26 (by kernel_rfl)
    (all_cons (tOf (z := 1) rfl (by decide) (by decide) rfl)
      (all_cons (tCmp dD dD (by omega) (cmpI_one h1))
      (all_cons (tText dD (by omega) rfl)
      (all_cons (qCatL (fun _ _ h => h) (rfl) ((by rw [show (⟨[47].toArray⟩ : ByteArray).size = 1 from rfl]; omega)) rfl)
      (all_cons (tText dD (by omega) rfl)
      (all_cons (qCat (fun _ _ h => h) (fun _ _ h => h) (fracS_cat h1) ((by rw [ByteArray.size_append, show (⟨[47].toArray⟩ : ByteArray).size = 1 from rfl]; omega)) rfl)
      all_nil))))))
    (ins_ok [.sub 0 (.agg [.s, .b, .s, .b]) [(0, 2, 1), (2, 2, 2)]] ⟨⟨fun _ _ h => DecQ.is h, fun _ _ h => DecQ.fst h, fun _ _ h => DecQ.snd h, trivial⟩, trivial⟩) (fun _ _ _ h => h)

theorem tFraction {Φ : Nat → World → Value → Prop} {p x k : Nat} {q : Rat} (hp : ∀ w v, Φ p w v → DecQ w v q k) (hk : k ≤ 990) (hx : Φ x = fun _ v => v = .string (fracS q)) : SiteOk Φ Tryz.prog ⟨26, [.fact p], [⟨.one .t, [(0, 0, x)]⟩], false⟩ := fun X w vs hX ha => by
  match vs, ha with
  | [v], ha =>
    have h := hp _ _ (get ha.1)
    obtain ⟨_, _, _, _, _, _, _, _, rfl, h1, h2⟩ := id h
    by_cases hd : q.den = 1
    · exact viaT (rfrac_1 hk hd) (fun w v h => hp w v h) (outs_t (fun w v h => by rw [hx, fracS_one hd]; exact h)) X w _ hX ha
    · exact viaT (rfrac_n hk hd (bd_size h1.bd (by omega)) (bd_size h2.bd (by omega))) (fun w v h => hp w v h) (outs_t (fun w v h => by rw [hx]; exact h)) X w _ hX ha
end Go.Proofs.YtjakllpnbeagjaaGreatDoor.Sym
