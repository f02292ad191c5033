/- Package limb: Norm: new memory, the same number, no 0s on top. -/
import Derived.Test.YtmmmpdpgkjcohaaLimbA
namespace Go.Proofs.Ytmmmpdpgkjcohaa
open Go.RowKit

theorem Try.infoU : (Try.prog.info? 65).map (fun i => (i.zero, i.size, i.bytes)) = some (some (.int .u32 0), 1, 4) := by kernel_rfl
theorem Try.sizeU : (Try.prog.info? 65).map (·.size) = some 1 := by kernel_rfl
theorem Try.infoI : (Try.prog.info? 3).map (fun i => (i.zero, i.size, i.bytes)) = some (some (.int .i64 0), 1, 8) := by kernel_rfl
theorem Try.sizeI : (Try.prog.info? 3).map (·.size) = some 1 := by kernel_rfl

/-- A new list of limbs (or digits) was handed back, and nothing that was there has turned. -/
def Made (e : TypeId) (k : IntKind) (w : World) (xs : List Nat) (en : Ending) (w' : World) : Prop :=
  ∃ v, en = .returned v ∧ Own w' e k w.heap.size v xs ∧ w.grownBy w' none

/-- The same, the slice's address told. -/
def MadeAt (e : TypeId) (k : IntKind) (w : World) (xs : List Nat) (en : Ending) (w' : World) : Prop :=
  ∃ g cap, en = .returned (.slice (some ⟨g, 0, none⟩) xs.length cap) ∧ Own w' e k w.heap.size (.slice (some ⟨g, 0, none⟩) xs.length cap) xs ∧ w.grownBy w' none

set_option maxHeartbeats 400000 in
theorem Norm_at {v : Value} {xs : List Nat} {w : World} (hx : Sl w .u32 v xs) (hlen : xs.length ≤ 17592186044416) :
    Calls Try.prog 58 #[v] w (MadeAt 65 .u32 w (trim xs)) := by
  obtain ⟨p, cap, rfl, h1, h2, h3⟩ := id hx
  have hl : (trim xs).length ≤ xs.length := by rw [trim_len]; exact trimTo_le _ _
  have ht : Sl w .u32 (.slice p (trim xs).length cap) (trim xs) := by
    have := hx.take _ hl
    rwa [show xs.take (trim xs).length = trim xs by rw [trim_len]; rfl] at this
  obtain ⟨i0, hi, hz0, hz1, hz2⟩ := info_parts Try.infoU
  obtain ⟨a, ha⟩ : ∃ a, trim xs = a := ⟨_, rfl⟩
  rw [ha] at ht hl ⊢
  have Hx := Lib.hid hx
  have Ht := Lib.hid ht
  have Ha := Lib.hid ha
  clear hx ht ha h3
  go_enter Try.func58, Try.ntmps58
  go_wp2_with fail
  refine (trim_to Hx.out Ha.out).mono ?_
  rintro e w' ⟨rfl, rfl⟩
  go_wp2_with (first
    | (at_make; refine wp_make rfl _ _ 22 rfl 65 i0 (.int .u32 0) Try.underlying22 hi hz0 hz1 (by omega) rfl _ _ _ _ a.length a.length rfl rfl rfl rfl (Nat.le_refl _) (by omega) ?_; intro w1 r1 g1 s1)
    | ((with_reducible refine wp_copy rfl (.tmp 9) (.tmp 10) 22 22 rfl 65 Try.underlying22 Try.sizeU .u32 p w.heap.size 0 a.length a.length a.length a.length a.length cap (fun _ => .int .u32 0) a rfl rfl (Ht.out.grown g1 (.inl rfl)) r1 (Nat.min_self _).symm (by omega) ?_); intro w2 r2 g2 s2))
  go_ret
  refine ⟨_, _, rfl, .inr ⟨_, _, _, rfl, Nat.le_refl _, r2, Nat.le_refl _, by omega, fun j hj => lay_in0 _ _ _ hj⟩, grown_new g1 g2 (Nat.le_refl _)⟩

theorem Norm_any {v : Value} {xs : List Nat} {w : World} (hx : Sl w .u32 v xs) (hlen : xs.length ≤ 17592186044416) :
    Calls Try.prog 58 #[v] w (Made 65 .u32 w (trim xs)) :=
  (Norm_at hx hlen).mono fun _ _ ⟨_, _, h1, h2, h3⟩ => ⟨_, h1, h2, h3⟩

end Go.Proofs.Ytmmmpdpgkjcohaa
