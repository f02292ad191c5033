/- pdiv.reduce. pdiv.Content, divided, Primitive, Rest. -/
import Derived.Test.YthmcngjhkmpneaaGreatDivT
import Derived.Test.YthmcngjhkmpneaaGreatDivA
import Derived.Test.YthmcngjhkmpneaaGreatCatB
import Derived.Test.YthmcngjhkmpneaaGreatPolD
namespace Go.Proofs.YthmcngjhkmpneaaGreat.Sym
open Go.RowKit
section
variable {z y:Nat->Int}{n m j k:Nat}{c:Int}
end
section
variable {Φ:PH}{p q x x' n m la l kp K j j2:Nat}{z y:Nat->Int}{c:Int}{L2:List Int}
end
section
variable {Φ:PH}{p q x n m k l j:Nat}{z:Nat->Int}{c:Int}{L:List Int}{zz:Nat->Nat->Int}{ln:Nat->Nat}
theorem C1 {w:World}{v:Value} (h:am 2 51 (If z k) n w v):ip w v n z k:=by
 obtain ⟨p,c,rfl,hc,he⟩:=h.rw
 obtain ⟨rows,-,-,ho,-⟩:=h
 have hcap:c<=9223372036854775807:=by
  rcases ho.1.2 with ⟨h1,-⟩ | ⟨g,cap,cur,h1,-,-,-,h4,-⟩
  ·simp only [Value.slice.injEq] at h1
   omega
  ·simp only [Value.slice.injEq] at h1
   obtain ⟨-,-,rfl⟩:=h1
   simp only [maxLen] at h4;omega
 refine ⟨p,c,rfl,hc,hcap,?_⟩
 rcases Nat.eq_zero_or_pos n with h0 | h0
 ·exact .inl h0
 ·obtain ⟨b,off,rfl,-⟩:=he 0 h0
  refine .inr ⟨b,off,rfl,fun j hj=>?_⟩
  obtain ⟨b',off',hb,l,h1,h2,x,s,X,h3,h4,h5⟩:=he j hj
  simp only [Option.some.injEq,Addr.mk.injEq,and_true] at hb
  obtain ⟨rfl,rfl⟩:=hb
  obtain rfl:l = [.bool x,s]:=by simpa using h3
  exact ⟨x,s,X,h2 0 _ rfl,h2 1 _ rfl,h4,h5⟩
theorem Bv (hp:∀w v,Φ p w v->am 2 51 (If z k) n w v) (hx:Φ x=Nw (ba z n:Int) k) (hk:k<=1000000):ai Φ Tryz.prog ⟨126,[.fact p],[⟨iS,[(0,0,x)]⟩],false⟩:=
 da fun _ _ _ h0=>((uj (C1 (hp _ _ (get h0))) hk).mono fun _ _ h=>h.got).mono fun _ _ h=>fF hx h
end
def cJ (f:Nat->Int) (c:Int) (j i:Nat):Int:=if i<j then f i / c else f i
def dvL (z:Nat->Int) (n:Nat) (c:Int):List Int:=mk (tl z n) fun i=>z i / c
section
variable {f:Nat->Int}{c:Int}{i j:Nat}
theorem Bm:cJ f c 0 i=f i:=if_neg (by omega)
theorem Bn (h:i≠j):cJ f c (j+1) i=cJ f c j i:=by
 unfold cJ
 split <;> split <;> first | rfl | omega
theorem tv:cJ f c j j=f j:=if_neg (by omega)
theorem Bo:cJ f c j j / c=cJ f c (j+1) j:=by rw [tv,cJ,if_pos (by omega)]
end
theorem pc {f g:Nat->Int}:∀{n:Nat},(∀i,i<n->f i=g i)->ba f n=ba g n
 | 0,_=>rfl
 | n+1,h=>by rw [ba,ba,pc fun i hi=>h i (by omega),h n (by omega)]
theorem uk {z:Nat->Int}:∀{n:Nat} (i:Nat),i<n->ba z n∣(z i).natAbs
 | n+1,i,hi=>by
  rw [ba]
  rcases Nat.lt_or_ge i n with h | h
  ·exact Nat.dvd_trans (Nat.gcd_dvd_left _ _) (uk i h)
  ·obtain rfl:i=n:=by omega
   exact Nat.gcd_dvd_right _ _
theorem jY {z:Nat->Int}{n:Nat} (i:Nat) (hi:i<n):((ba z n:Nat):Int)∣z i:=Int.ofNat_dvd_left.2 (uk i hi)
section
variable {Φ:PH}{p q x n m k l j:Nat}{z:Nat->Int}{c:Int}{L:List Int}{zz:Nat->Nat->Int}{ln:Nat->Nat}
theorem AX {w:World}{v:Value}{y:Int}{k:Nat} (h:ak w v y k):∃s n c,v = .agg #[.bool (decide (y<0)),.slice s n c]:=by
 obtain ⟨⟨p,c,h1,-⟩,-⟩:=h
 exact ⟨_,_,_,h1⟩
end
section
variable {Φ:PH}{p q x y n m k l j:Nat}{z:Nat->Int}{c:Int}{P:List Int}
end
end Go.Proofs.YthmcngjhkmpneaaGreat.Sym
