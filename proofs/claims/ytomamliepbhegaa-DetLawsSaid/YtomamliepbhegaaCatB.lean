/- slices.Grow of nothing; slices.Concat of polynomials. -/
import Derived.Test.YtomamliepbhegaaCatA
import Derived.Test.YtomamliepbhegaaDivT
import Derived.Test.YtomamliepbhegaaPolL
namespace Go.Proofs.Ytomamliepbhegaa.Sym
open Go.RowKit
def kX (sz:Nat) (e:TypeId) (w:World) (v:Value):Prop:=∃g n cap cur,v = .slice (some ⟨g,0,none⟩) n cap∧w.heap[g]?=some (.cells cur e (0,0))∧cap<=maxLen∧cur.size=cap*sz∧∀x,x ∈ cur.toList->KT x
def fR (T:TypeId):Op->Option (List Operand)
 | .call ⟨.builtin .cap,args,ts⟩=>if ts = #[T] then some args.toList else none
 | _=>none
section
variable {P:Program}{Φ:PH}{p x j:Nat}
theorem iC {T e:TypeId} (hT:P.underlying T=some (.slice e)):aj Φ P ⟨0,[.lit .nl],[oL (.ci .i64 0)],.quiet (fR T)⟩:=fun X w ac o xs _ hm ha=>by
 unfold fR at hm
 split at hm
 case h_2=>cases hm
 rename_i args ts ho
 split at hm
 case isFalse=>cases hm
 rename_i hts
 subst hts
 simp only [Option.some.injEq] at hm
 subst hm
 match hl:args.toList,ha with
 | [y],ha=>
  have hv:ac.eval y = .slice none 0 0:=ha.1
  have hargs:args = #[y]:=by apply Array.ext';simpa using hl
  subst hargs
  refine ⟨.int .i64 0,w,?_,ba w none,⟨⟨⟨rfl,fun _ h=>by cases h⟩,fun r hr=>by cases hr⟩,trivial⟩⟩
  unfold execOp
  simp [ho,resolve,invoke,builtin,Builtin.cap_,run_underlying hT,hv,goInt]
theorem dW {T e:TypeId} (hT:P.underlying T=some (.slice e)):aj Φ P ⟨0,[.lit .nl],[oL (.ci .i64 0)],.quiet (aD T)⟩:=fun X w ac o xs _ hm ha=>by
 unfold aD at hm
 split at hm
 case h_2=>cases hm
 rename_i args ts ho
 split at hm
 case isFalse=>cases hm
 rename_i hts
 subst hts
 simp only [Option.some.injEq] at hm
 subst hm
 match hl:args.toList,ha with
 | [y],ha=>
  have hv:ac.eval y = .slice none 0 0:=ha.1
  have hargs:args = #[y]:=by apply Array.ext';simpa using hl
  subst hargs
  refine ⟨.int .i64 0,w,?_,ba w none,⟨⟨⟨rfl,fun _ h=>by cases h⟩,fun r hr=>by cases hr⟩,trivial⟩⟩
  unfold execOp
  simp [ho,resolve,invoke,builtin,Builtin.len_,run_underlying hT,hv,goInt]
theorem qu {T:TypeId}{o:Op}{xs:List Operand} (h:dq T o=some xs):∃y z,o = .slice T y none (some z) none∧xs = [y,z]:=by
 unfold dq at h
 split at h
 case h_2=>cases h
 rename_i t y z
 split at h
 case isFalse=>cases h
 rename_i ht
 subst ht
 simp only [Option.some.injEq] at h
 exact ⟨y,z,rfl,h.symm⟩
theorem qv {T e:TypeId}{sz:Nat} (hT:P.underlying T=some (.slice e)) (hz:cG P e=some sz):aj Φ P ⟨0,[.lit .nl,.lit (.ci .i64 0)],[⟨.one (.lit .nl),[]⟩],.quiet (dq T)⟩:=fun X w ac o xs _ hm ha=>by
 obtain ⟨y,z,ho,rfl⟩:=qu hm
 have hv:ac.eval y = .slice none 0 0:=ha.1
 have hi2:ac.eval z = .int .i64 0:=ha.2.1
 refine ⟨.slice none 0 0,w,?_,ba w none,⟨⟨⟨rfl,fun _ h=>by cases h⟩,fun r hr=>by cases hr⟩,trivial⟩⟩
 unfold execOp
 simp only [ho,Option.map_none,Option.map_some,hv,hi2]
 simp [Instr.sliceAt,Instr.slice,run_underlying hT,Instr.sliceBounds,run_sliceBound (P:=P) w .i64 (0:Int) 0 .sliceAcap (by omega) (by omega),run_sizeOf hz]
theorem qw {T e:TypeId}{sz:Nat}{F:PH} (hT:P.underlying T=some (.slice e)) (hz:cG P e=some sz) (hp:∀w v,Φ p w v->kX sz e w v) (hx:Φ x=aC sz e F 0):aj Φ P ⟨0,[.fact p,.lit (.ci .i64 0)],[oS x],.loose [] j 0 (dq T)⟩:=fun X L w ac o xs hX hL hLX hm ha hb _=>by
 obtain ⟨y,z,ho,rfl⟩:=qu hm
 obtain ⟨g,n,cap,cur,hv,hh,hc,hs,hn⟩:=hp _ _ (ha.1 w (Off.refl _ _))
 have hi2:ac.eval z = .int .i64 0:=ha.2.1
 have hLg:L g:=hb y g rfl (by rw [hv];rfl)
 refine ⟨.slice (some ⟨g,0,none⟩) 0 cap,w,none,?_,ba w none,(fun _ h=>by cases h),Kp.refl _,(fun m k v _ h4 h5=>⟨h4,h5⟩),fun m hm'=>?_,cm ⟨⟨_,_,_,rfl⟩,fun _ h=>by cases h⟩ hx fun w1 hw=>?_⟩
 ·unfold execOp
  have ha0:((some (⟨g,0,none⟩:Addr)).map fun y=>y.add 0)=some ⟨g,0,none⟩:=by simp [Addr.add_zero']
  simp only [ho,Option.map_none,Option.map_some,hv,hi2]
  simp [Instr.sliceAt,Instr.slice,run_underlying hT,Instr.sliceBounds,run_sliceBound (P:=P) w .i64 (0:Int) cap .sliceAcap (by omega) (by omega),run_sizeOf hz,Addr.add_zero']
 ·simp only [blk,Option.some.injEq] at hm'
  subst hm'
  exact ⟨hL g hLg,.inl hLg⟩
 ·have hw1:w1.heap[g]?=some (.cells cur e (0,0)):=by
   rw [hw.2 g (hL g hLg) (hLX g hLg)];exact hh
  refine ⟨[],rfl,(fun _ h=>by cases h),⟨⟨by simp,.inr ⟨g,cap,cur,rfl,Nat.zero_le _,hw1,Nat.zero_le _,hc,hs,by simp⟩⟩,fun g' cur' e' p' hg' hh' u hu=>?_⟩,fun i r h=>by simp at h⟩
  simp only [Value.ownBlock,Option.some.injEq] at hg'
  subst hg'
  rw [hw1] at hh'
  cases hh'
  exact hn u hu
end
section
variable {Φ:PH}{p q x n m k j:Nat}{F:PH}{J:List Nat}
end
theorem bO {sz n:Nat}{F:PH}{w:World}{v:Value} (h:Rw sz F n w v):∃p n c,v = .slice p n c:=by
 obtain ⟨p,c,rfl,_⟩:=h;exact ⟨_,_,_,rfl⟩
section
variable {Φ:PH}{p q x n m k j i:Nat}{F:PH}{J:List Nat}{zz:Nat->Nat->Int}{ln:Nat->Nat}
end
end Go.Proofs.Ytomamliepbhegaa.Sym
