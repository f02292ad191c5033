/- Package whole: Pow. -/
import Derived.Test.YtmkplojojaopmaaBx
import Derived.Deep.DeepCutAuto
namespace Go.Proofs.Ytmkplojojaopmaa
open Go.RowKit
theorem and1_i64 : ∀ x : Fin 257, bits .and .i64 ((x.val : Nat) : Int) 1 = ((x.val % 2 : Nat) : Int) := by decide +kernel

theorem bd_pow {a : Int} {i : Nat} (h : Bd a.natAbs i) (m : Nat) : Bd (a ^ m).natAbs (i * m + 1) := by
  unfold Bd at *
  rw [Int.natAbs_pow]
  refine Nat.lt_of_le_of_lt (Nat.pow_le_pow_left (Nat.le_of_lt h) m) ?_
  rw [← Nat.pow_mul]
  exact Nat.pow_lt_pow_right (by omega) (Nat.lt_succ_self _)
theorem NorI.pow {w : World} {v : Value} {a : Int} {i m k : Nat} (h : NorI w v (a ^ m)) (hb : Bd a.natAbs i) (hk : i * m + 1 ≤ k) : IntV w v (a ^ m) k := h.intV ((bd_pow hb m).more hk)
theorem NorI.powz {w : World} {v : Value} {a z : Int} {i m k : Nat} (h : NorI w v z) (hz : z = a ^ m) (hb : Bd a.natAbs i) (hk : i * m + 1 ≤ k) : IntV w v z k := by
  subst hz
  exact NorI.pow h hb hk
theorem pow_sq (a : Int) (m : Nat) : a ^ m * a ^ m = a ^ (2 * m) := by rw [← Int.pow_add]; congr 1; omega
theorem ownI_set2 {w : World} {B g : Nat} {u v x y : Value} {z : Int} (h : OwnI w B (.agg #[u, v]) z) (hne : v.ownBlock ≠ some g) : OwnI (set2 w g x y) B (.agg #[u, v]) z := by
  obtain ⟨p, cap, h1, h2⟩ := h
  refine ⟨p, cap, h1, h2.grown (set2_grown _ _ _ _) (.inr ?_)⟩
  simp only [Value.agg.injEq, Array.mk.injEq, List.cons.injEq, and_true] at h1
  rw [← h1.2]
  exact hne
theorem OwnI.mono {w : World} {B B' : Nat} {v : Value} {z : Int} (h : OwnI w B v z) (hB : B' ≤ B) : OwnI w B' v z := by
  obtain ⟨p, cap, h1, h2⟩ := h
  exact ⟨p, cap, h1, h2.mono hB⟩
theorem OwnI.lt {w : World} {B : Nat} {u v : Value} {z : Int} (h : OwnI w B (.agg #[u, v]) z) : ∀ g, v.ownBlock = some g → B ≤ g ∧ g < w.heap.size := by
  obtain ⟨p, cap, h1, h2⟩ := h
  simp only [Value.agg.injEq, Array.mk.injEq, List.cons.injEq, and_true] at h1
  rw [h1.2]
  exact h2.lt
theorem bit_0 (k c : Nat) (h : k / 2 ^ c % 2 = 0) : k / 2 ^ c = 2 * (k / 2 ^ (c + 1)) := by
  rw [Nat.pow_succ, ← Nat.div_div_eq_div_mul]; omega
theorem bit_1 (k c : Nat) (h : ¬ k / 2 ^ c % 2 = 0) : k / 2 ^ c = 2 * (k / 2 ^ (c + 1)) + 1 := by
  rw [Nat.pow_succ, ← Nat.div_div_eq_div_mul]; omega
theorem bit_test (k c : Nat) (hk : k ≤ 256) : bits .and .i64 ((k : Int) / 2 ^ c) 1 = ((k / 2 ^ c % 2 : Nat) : Int) := by
  have h := Nat.div_le_self k (2 ^ c)
  have := and1_i64 ⟨k / 2 ^ c, by omega⟩
  rw [shr_cast]
  exact this
theorem IntV.bd {w : World} {v : Value} {z : Int} {k : Nat} (h : IntV w v z k) : Bd z.natAbs k := by
  obtain ⟨b, s, X, rfl, h2, rfl⟩ := h
  rw [sg_abs]
  exact h2.bd

end Go.Proofs.Ytmkplojojaopmaa
