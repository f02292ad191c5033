/- Division of polynomials -/
import Derived.Test.YtbjfgffibepmkaaGreatCatB
import Derived.Test.YtbjfgffibepmkaaGreatRowP
namespace Go.Proofs.YtbjfgffibepmkaaGreat.Sym
open Go.RowKit
variable {w:World}{v:Value}
section
variable {A z y:Nat->Int}{c pw:Int}{n m i j k p:Nat}
end
section
variable {z y:Nat->Int}{n m j k:Nat}{c:Int}
end
section
variable {Φ:PH}{p q x x' n m la l kp K j j2:Nat}{z y:Nat->Int}{c:Int}{L2:List Int}
end
section
variable {Φ:PH}{p q x n m k l j:Nat}{z:Nat->Int}{c:Int}{L:List Int}{zz:Nat->Nat->Int}{ln:Nat->Nat}
theorem Jb  (h:aC 2 27 (If z k) n w v):kK w v n z k:=by
 obtain ⟨p,c,rfl,hc,he⟩:=h.rw
 obtain ⟨rows,-,-,ho,-⟩:=h
 have hcap:c<=9223372036854775807:=by
  rcases ho.1.2 with ⟨h1,-⟩ | ⟨g,cap,cur,h1,-,-,-,h4,-⟩
  ·simp only [Value.slice.injEq] at h1
   omega
  ·simp only [Value.slice.injEq] at h1
   obtain ⟨-,-,rfl⟩:=h1
   simp only [maxLen] at h4;omega
 refine ⟨p,c,rfl,hc,hcap,?_⟩
 rcases Nat.eq_zero_or_pos n with h0 | h0
 ·exact .inl h0
 ·obtain ⟨b,off,rfl,-⟩:=he 0 h0
  refine .inr ⟨b,off,rfl,fun j hj=>?_⟩
  obtain ⟨b',off',hb,l,h1,h2,x,s,X,h3,h4,h5⟩:=he j hj
  simp only [Option.some.injEq,Addr.mk.injEq,and_true] at hb
  obtain ⟨rfl,rfl⟩:=hb
  obtain rfl:l = [.bool x,s]:=by simpa using h3
  exact ⟨x,s,X,h2 0 _ rfl,h2 1 _ rfl,h4,h5⟩
theorem xX (hp:∀w v,Φ p w v->aC 2 27 (If z k) n w v) (hx:Φ x=Nw (bp z n:Int) k) (hk:k<=1000000:=by omega):aj Φ Tryz.prog ⟨122,[.fact p],[⟨iS,[(0,0,x)]⟩],false⟩:=
 fU fun _ _ _ h0=>((Jc (Jb (hp _ _ (get h0))) hk).mono fun _ _ h=>h.got).mono fun _ _ h=>jj hx h
end
def ec (f:Nat->Int) (c:Int) (j i:Nat):Int:=if i<j then f i / c else f i
def dvL (z:Nat->Int) (n:Nat) (c:Int):List Int:=mk (tl z n) fun i=>z i / c
section
variable {f:Nat->Int}{c:Int}{i j:Nat}
theorem Im:ec f c 0 i=f i:=if_neg (by omega)
theorem In (h:i≠j):ec f c (j+1) i=ec f c j i:=by
 unfold ec
 split <;> split <;> first | rfl | omega
theorem xW:ec f c j j=f j:=if_neg (by omega)
theorem Io:ec f c j j / c=ec f c (j+1) j:=by rw [xW,ec,if_pos (by omega)]
end
theorem pQ {f g:Nat->Int}:∀{n:Nat},(∀i,i<n->f i=g i)->bp f n=bp g n
 | 0,_=>rfl
 | n+1,h=>by rw [bp,bp,pQ fun i hi=>h i (by omega),h n (by omega)]
theorem yJ {z:Nat->Int}:∀{n:Nat} (i:Nat),i<n->bp z n∣(z i).natAbs
 | n+1,i,hi=>by
  rw [bp]
  rcases Nat.lt_or_ge i n with h | h
  ·exact Nat.dvd_trans (Nat.gcd_dvd_left _ _) (yJ i h)
  ·obtain rfl:i=n:=by omega
   exact Nat.gcd_dvd_right _ _
theorem no {z:Nat->Int}{n:Nat} (i:Nat) (hi:i<n:=by omega):((bp z n:Nat):Int)∣z i:=Int.ofNat_dvd_left.2 (yJ i hi)
section
variable {Φ:PH}{p q x n m k l j:Nat}{z:Nat->Int}{c:Int}{L:List Int}{zz:Nat->Nat->Int}{ln:Nat->Nat}
theorem xT {y:Int} (h:ak w v y k):∃s n c,v = .agg #[.bool (decide (y<0)),.slice s n c]:=by
 obtain ⟨⟨p,c,h1,-⟩,-⟩:=h
 exact ⟨_,_,_,h1⟩
end
section
variable {Φ:PH}{p q x y n m k l j:Nat}{z:Nat->Int}{c:Int}{P:List Int}
end
end Go.Proofs.YtbjfgffibepmkaaGreat.Sym
