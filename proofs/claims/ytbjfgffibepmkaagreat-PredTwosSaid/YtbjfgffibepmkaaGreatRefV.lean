/- Ratio's functions by the -/
import Derived.Test.YtbjfgffibepmkaaGreatSymS
set_option maxRecDepth 100000
namespace Go.Proofs.YtbjfgffibepmkaaGreat.Sym
open Go.Proofs.Tryz
open Go.RowKit
variable {w:World}{v:Value}{b:Bool}{y z:Int}{k:Nat}
section
variable {Φ:PH}
def QVb (w:World) (v:Value) (b:Bool) (z y:Int) (k:Nat):Prop:=∃s b' s',v = .agg #[.bool b,s,.bool b',s']∧Num w s z.natAbs k∧z=sg b z.natAbs∧aF w (.agg #[.bool b',s']) y k
theorem QVb.kp {w':World} (h:QVb w v b z y k) (g:Kp w w'):QVb w' v b z y k:=by
 obtain ⟨s,b',s',h1,h2,h3,h4⟩:=h
 exact ⟨s,b',s',h1,h2.kp g,h3,h4.kp g⟩
theorem QV.vb  (h:QV w v z y k):∃b,QVb w v b z y k:=by
 obtain ⟨b,p,n,c,b',p',n',c',rfl,h1,h2⟩:=h
 obtain ⟨b1,s1,X,e,h3,h4⟩:=h1
 simp only [Value.agg.injEq,Array.mk.injEq,List.cons.injEq,Value.bool.injEq,and_true] at e
 obtain ⟨rfl,rfl⟩:=e
 have e2:z.natAbs=X:=by rw [h4];exact ee _ _
 exact ⟨b,_,b',_,rfl,by rw [e2];exact h3,by rw [e2];exact h4,h2⟩
theorem QVb.is  (h:QVb w v b z y k):(bW.agg [.lit (.cb b),.s,.b,.s]).is v:=by
 obtain ⟨s,b',s',rfl,h1,h2,h3⟩:=h
 obtain ⟨p,n,c,rfl⟩:=h1.slice
 obtain ⟨b2,p',n',c',e,h3⟩:=h3.open
 simp only [Value.agg.injEq,Array.mk.injEq,List.cons.injEq,Value.bool.injEq,and_true] at e
 obtain ⟨rfl,rfl⟩:=e
 exact ⟨[_,_,_,_],rfl,rfl,⟨_,_,_,rfl⟩,⟨_,rfl⟩,⟨_,_,_,rfl⟩,trivial⟩
theorem QVb.num  (h:QVb w v b z y k):Num w (bn 1 1 v) z.natAbs k:=by
 obtain ⟨s,b',s',rfl,h1,h2,h3⟩:=h;exact h1
theorem QVb.snd  (h:QVb w v b z y k):aF w (bn 2 2 v) y k:=by
 obtain ⟨s,b',s',rfl,h1,h2,h3⟩:=h;exact h3
end
end Go.Proofs.YtbjfgffibepmkaaGreat.Sym
namespace Go.Proofs.YtbjfgffibepmkaaGreat
open Go.Proofs.Tryz
open Go.RowKit
variable {w:World}{X c cap j k n:Nat}{p:Option Addr}{y z:Int}{b:Bool}
theorem XN {c:Bool} (b:Bool) (h:cC w (.slice p n cap) X k) (hn:n=(am 10000 X).length) (hz:z=sg b X) (hc:c=(b && decide (0<n))):ai w (.agg #[.slice p n cap,.bool c]) z k:=by
 subst hn hz hc
 refine ⟨p,cap,?_,?_⟩
 ·rw [mp,ee,kS _ _]
 ·rw [ee];exact h
theorem ai.flag  (h:ai w (.agg #[.slice p n c,.bool b]) z k):b=decide (z<0)∧n=(am 10000 z.natAbs).length:=by
 obtain ⟨p',c',e,-⟩:=h
 simp only [Value.agg.injEq,Array.mk.injEq,List.cons.injEq,Value.bool.injEq,Value.slice.injEq,and_true] at e
 exact ⟨e.2,e.1.2.1⟩
def Cel (w:World) (blk off:Nat) (x:Int):Prop:=w.cell? ⟨blk,off,none⟩=some (.int .i64 x)
theorem Cel.kp {w':World}{blk off:Nat}{x:Int} (h:Cel w blk off x) (g:Kp w w'):Cel w' blk off x:=g.2 _ _ _ (by decide) h
theorem EA  (h:(am 10000 X).length=1):0<X∧X<10000:=by
 have h1:=hH (b:=10000) X
 rw [h] at h1
 refine ⟨?_,by omega⟩
 rcases Nat.eq_zero_or_pos X with rfl | h2
 ·have:=(fz (b:=10000) (n:=0)).2 rfl;omega
 ·exact h2
theorem ai.one  (h:ai w (.agg #[.slice p 1 c,.bool b]) z k):∃blk off,p=some ⟨blk,off,none⟩∧Cel w blk off (z.natAbs:Nat):=by
 obtain ⟨-,hn⟩:=h.flag
 obtain ⟨p',c',e,h2⟩:=h
 simp only [Value.agg.injEq,Array.mk.injEq,List.cons.injEq,Value.bool.injEq,Value.slice.injEq,and_true] at e
 obtain ⟨⟨rfl,-,rfl⟩,-⟩:=e
 obtain ⟨q,c2,e2,-,-,h3⟩:=h2.1
 simp only [Value.slice.injEq,true_and] at e2
 obtain ⟨rfl,rfl⟩:=e2
 have hx:=EA hn.symm
 rcases h3 with h3 | ⟨blk,off,rfl,-,h3⟩
 ·rw [h3] at hn;cases hn
 ·refine ⟨blk,off,rfl,?_⟩
  have:=h3 0 (by omega)
  rw [vD hx.1 hx.2] at this
  exact this
theorem vP (z:Int):(Rat.divInt z 1).num=z:=by rw [Rat.num_divInt];simp
theorem vQ (z:Int):((Rat.divInt z 1).den:Int)=1:=by rw [Rat.den_divInt];simp
theorem rz  (h:0<y):de z y=(Int.gcd z y:Int):=by rw [de,if_neg (by omega)]
set_option maxHeartbeats 4000000 in
theorem XO {b':Bool}{q:Option Addr}{m cap' Y i:Nat} (hx:cC w (.slice p n cap) X i) (hy:cC w (.slice q m cap') Y j) (hi:i+j<=900000) (hY:0<Y) :
  Calls prog 108 #[.agg #[.slice p n cap,.bool b],.agg #[.slice q m cap',.bool b']] w (fY w (sg (b != b') (X / Y)) i):=by
 have Hx:=Lib.hid hx
 have Hy:=Lib.hid hy
 have S0:Kept w [(w.heap.size+1,0,(.slice q m cap')),(w.heap.size+1,1,(.bool b')),(w.heap.size,0,(.slice p n cap)),(w.heap.size,1,(.bool b))] [w.heap.size+1+1] (((w.alloc (.cells #[.slice p n cap,.bool b] 61)).alloc (.cells #[.slice q m cap',.bool b'] 61)).alloc (.cells #[.slice none 0 0,.bool false] 61)):=(((Kept.start w).box _ _ _ _ rfl).box _ _ _ _ (by simp)).res _ _ _ _ _ (by simp)
 clear hx hy
 go_enter func108,ntmps108
 go_wp2_with fail
 refine (AD (Hx.out.grown (Kept.all _ _ S0)) (Hy.out.grown (Kept.all _ _ S0)) (by omega) hY).mono ?_
 rintro e w1 ⟨vq,vr,rfl,hq,hr,bq,br,hg⟩
 obtain ⟨pq,cq,rfl⟩:=hq.slice
 obtain ⟨pr,cr,rfl⟩:=hr.slice
 have Hq:=Lib.hid hq
 have Bq:=Lib.hid bq
 replace S0:=Kept.grown _ _ S0 hg
 have s2:=S0.lt (g:=w.heap.size+1+1) (by simp)
 clear hg hq hr bq br
 obtain ⟨l,hl⟩:∃l,(am 10000 (X / Y)).length=l:=⟨_,rfl⟩
 rw [hl] at Hq
 rw [hl]
 have Hl:=Lib.hid hl
 clear hl
 obtain ⟨c0,c1,c2,c3,r0,r1,f0,f1,G⟩:=id S0
 go_wp2_with fail
 refine (gO _ _ _ _ _).mono ?_
 rintro e w2 ⟨rfl,hg⟩
 replace S0:=Kept.grown _ _ S0 hg
 replace Hq:=Lib.hid (Hq.out.grown hg (.inl rfl))
 clear hg c0 c1 c2 c3 r0 r1 f0 f1 G
 obtain ⟨c0,c1,c2,c3,r0,r1,f0,f1,G⟩:=id S0
 go_wp2_with fail
 have G2:=Kept.all _ _ (Kept.set (g:=w.heap.size+1+1) (u:=.slice pq l cq) (v:=.bool ((b != b') && decide (0<l))) _ _ (by simp <;> omega) (by omega) S0)
 refine WH results108 rfl rfl (dW r0) (dY r1) (fY.mk (XN (b != b') (X:=X / Y) ?_ Hl.out.symm rfl rfl) G2)
 exact ⟨(Hq.out.grown (gA _ _ _ _) (own_ne Hq.out (by first | omega | (simp <;> omega)))).sl,Bq.out⟩
set_option maxHeartbeats 4000000 in
theorem XP {v u:Value}{t:Int}{i:Nat} (hx:ai w v z i) (hy:ai w u y j) (hi:i+j<=900000) (h0:y≠0) (hd:y∣z) (ht:z / y=t) :
  Calls prog 108 #[v,u] w (fY w t i):=by
 subst ht
 obtain ⟨b,p,n,cap,X,rfl,dx,rfl⟩:=hx.open
 obtain ⟨b',q,m,cap',Y,rfl,dy,rfl⟩:=hy.open
 have hY:Y≠0:=by rintro rfl;exact h0 (by cases b' <;> rfl)
 have hR:X % Y=0:=by
  have:=Int.natAbs_dvd_natAbs.2 hd
  rw [ee,ee] at this
  exact Nat.mod_eq_zero_of_dvd this
 rw [(tV (b:=b) (b':=b') hY (.inr hR)).1]
 exact XO dx dy hi (Nat.pos_of_ne_zero hY)
end Go.Proofs.YtbjfgffibepmkaaGreat
namespace Go.Proofs.YtbjfgffibepmkaaGreat.Sym
open Go.Proofs.Tryz
open Go.RowKit
variable {w:World}{v:Value}{y:Int}{b:Bool}
def df (y:Int) (i:Nat) (_:World) (v:Value):Prop:=v = .agg #[.int .i64 ((nth (am 10000 y.natAbs) i:Nat):Int)]
theorem ai.arr {k n:Nat} (h:ai w v y k) (h0:y≠0) (hl:(am 10000 y.natAbs).length=n):Arr 1 (df y) n w (bn 0 1 v):=by
 subst hl
 obtain ⟨p,c,rfl,h2⟩:=h
 obtain ⟨q,c2,e2,-,-,h3⟩:=h2.1
 simp only [Value.slice.injEq,true_and] at e2
 obtain ⟨rfl,rfl⟩:=e2
 rcases h3 with h3 | ⟨b,off,rfl,-,h3⟩
 ·have:=(fz (b:=10000) (n:=y.natAbs)).1 (by rw [h3];rfl)
  omega
 ·refine ⟨_,_,rfl,fun i hi=>⟨b,off,rfl,[.int .i64 ((nth (am 10000 y.natAbs) i:Nat):Int)],rfl,fun j u hj=>?_,rfl⟩⟩
  have h4:=h3 i hi
  match j,hj with
  | 0,hj=>
   simp only [List.getElem?_cons_zero,Option.some.injEq] at hj
   subst hj
   rw [Nat.mul_one,Nat.add_zero]
   exact h4
theorem ai.isA {k:Nat} (h:ai w v y k) (hb:decide (y<0)=b):(bW.agg [.s,.lit (.cb b)]).is v:=by
 obtain ⟨p,c,rfl,-⟩:=h
 exact ⟨_,rfl,⟨_,_,_,rfl⟩,by rw [hb];rfl,trivial⟩
section
variable {P:Program}{Φ:PH}{X:Nat->Prop}{p q x x2 i j n:Nat}{z t:Int}{w':World}{e:Ending}
theorem XQ {sh:bW}{u:Value}{G:WP} (hs:sh.is u) (hx:Φ x=G) (h:∀w1,Off X w w1->G w1 u):ch Φ X w [⟨sh,[(0,0,x)]⟩] [u]:=⟨⟨hs,fun r hr w1 hw=>by
 simp only [List.mem_singleton] at hr;subst hr
 show Φ x w1 _;rw [hx];exact h w1 hw⟩,trivial⟩
theorem oH {T:TypeId} (hp:∀w v,Φ p w v->Ptr 1 (df y 0) w v) (hx:Φ x=Ni ((nth (am 10000 y.natAbs) 0:Nat):Int)) (hT:gC P T=some false:=by kernel_rfl):aj Φ P ⟨0,[.fact p],[oN x],.quiet (aO T)⟩:=fun X w ac o xs _ hm ha=>by
 unfold aO at hm
 split at hm
 case h_2=>cases hm
 rename_i t y ho
 split at hm
 case isFalse=>cases hm
 rename_i ht
 subst ht
 simp only [Option.some.injEq] at hm
 subst hm
 obtain ⟨b,off,hv,l,h1,h2,h3⟩:=hp _ _ (ha.1 w (Off.refl _ _))
 have h3:Value.agg l.toArray = .agg #[.int .i64 _]:=h3
 obtain rfl:l = [.int .i64 _]:=by simpa using h3
 have hc:=h2 0 _ rfl
 refine ⟨.int .i64 _,w,?_,bt w none,XQ ⟨⟨_,rfl⟩,fun _ h=>by cases h⟩ hx fun _ _=>rfl⟩
 rw [Nat.add_zero] at hc
 unfold execOp
 simp [ho,hv,Instr.loadAt,Instr.sureAddr,loadVar,gD hT,hc]
theorem EB (hx:Φ x=fun w v=>ai w v t i) (hx2:Φ x2=Arr 1 (df t) n) (h0:0<t) (hl:(am 10000 t.natAbs).length=n) (h:fY w t i e w'):post Φ X [⟨.agg [.s,.lit (.cb false)],[(0,0,x),(0,1,x2)]⟩] false w e w':=by
 obtain ⟨s,m,c,b,rfl,h1,h2⟩:=h
 obtain rfl:b=false:=h1.flag.1.trans (decide_eq_false (by omega))
 refine ⟨h2,[_],rfl,⟨⟨_,rfl,⟨_,_,_,rfl⟩,rfl,trivial⟩,fun q hq w1 hw=>?_⟩,trivial⟩
 have h':=ai.kp h1 hw.1
 simp only [List.mem_cons,List.not_mem_nil,or_false] at hq
 rcases hq with rfl | rfl
 ·show Φ x w1 _;rw [hx];exact h'
 ·show Φ x2 w1 _;rw [hx2];exact ai.arr h' (by omega) hl
theorem vR (hp:∀w v,Φ p w v->ai w v z i) (hx:Φ x=fun w v=>ai w v (-z) i) (hx2:Φ x2=Arr 1 (df (-z)) n) (h0:z<0) (hl:(am 10000 (-z).natAbs).length=n):aj Φ prog ⟨106,[.fact p],[⟨.agg [.s,.lit (.cb false)],[(0,0,x),(0,1,x2)]⟩],false⟩:=
 fU fun _ _ _ h1=>(Ei (hp _ _ (get h1)) rfl).mono fun _ _ h=>EB hx hx2 (by omega) hl h
theorem XR (hx:Φ x=fun w v=>ai w v 1 2) (hx2:Φ x2=Arr 1 (df 1) 1):aj Φ prog ⟨34,[.lit (.ci .i64 1)],[⟨.agg [.s,.lit (.cb false)],[(0,0,x),(0,1,x2)]⟩],false⟩:=
 fU fun _ _ v h1=>by
  obtain rfl:v = .int .i64 1:=h1
  exact (vJ 1 (by decide) (by decide) rfl).mono fun _ _ h=>EB hx hx2 (by decide) (by decide +kernel) h
theorem jo (hp:∀w v,Φ p w v->ai w v z i) (hq:∀w v,Φ q w v->ai w v y j) (hx:Φ x=fun w v=>ai w v t i) (h0':y≠0) (h1':y∣z) (ht:z / y=t) (hi:i+j<=900000:=by omega):aj Φ prog ⟨108,[.fact p,.fact q],[⟨dS,[(0,0,x)]⟩],false⟩:=
 fw fun _ _ _ _ h0 h1=>(XP (hp _ _ (get h0)) (hq _ _ (get h1)) hi h0' h1' ht).mono fun _ _ h=>ke hx h
theorem vS {p1 p2:Nat} (h:∀w v,sS.is v->Φ p1 w (bn 0 2 v)->Φ p2 w (bn 2 2 v)->Φ x w v) (X:Nat->Prop) (w:World) (v:Value) (hv:(bW.agg [.s,.b,.s,.lit (.cb b)]).is v∧∀q,q ∈ [(0,2,p1),(2,2,p2)]->∀w1,Off X w w1->Φ q.2.2 w1 (bn q.1 q.2.1 v)):sS.is v∧∀q,q ∈ [(0,0,x)]->∀w1,Off X w w1->Φ q.2.2 w1 (bn q.1 q.2.1 v):=by
 have hs:sS.is v:=by
  obtain ⟨vs,rfl,h⟩:=hv.1
  match vs,h with
  | [v0,v1,v2,v3],h=>
   obtain ⟨h0,h1,h2,h3,_⟩:=h
   exact ⟨_,rfl,h0,h1,h2,⟨_,h3⟩,trivial⟩
 exact ⟨hs,fun q hq w1 hw=>by
  simp only [List.mem_singleton] at hq
  subst hq
  exact h w1 _ hs (hv.2 (0,2,p1) (by simp) w1 hw) (hv.2 (2,2,p2) (by simp) w1 hw)⟩
theorem XS {m:Nat} (hl:(am 10000 m).length=1):nth (am 10000 m) 0=m:=by
 have h:=EA hl
 rw [vD h.1 h.2];rfl
theorem EC (h0:y=0):aW z y=Rat.divInt z 1:=by rw [aW,if_pos h0]
theorem rA (h0:y<0):aW z y=Rat.divInt (-z) (-y):=by rw [iR (by omega),Rat.neg_divInt_neg]
theorem XT (h0:y=0):z=(aW z y).num:=by rw [EC h0,vP]
theorem XU (h0:y=0):(1:Int)=((aW z y).den:Int):=by rw [EC h0,vQ]
theorem rB (h0:0<y) (hl:(am 10000 y.natAbs).length=1) (hd:nth (am 10000 y.natAbs) 0=1):y=1:=by
 rw [XS hl] at hd;omega
theorem XV (h0:0<y) (hl:(am 10000 y.natAbs).length=1) (hd:nth (am 10000 y.natAbs) 0=1):z=(aW z y).num:=by
 rw [rB h0 hl hd,iR (by decide),vP]
theorem XW (h0:0<y) (hl:(am 10000 y.natAbs).length=1) (hd:nth (am 10000 y.natAbs) 0=1):y=((aW z y).den:Int):=by
 rw [rB h0 hl hd,iR (by decide),vQ]
theorem XX (h0:y<0) (hl:(am 10000 (-y).natAbs).length=1) (hd:nth (am 10000 (-y).natAbs) 0=1) : -z=(aW z y).num:=by
 rw [rA h0,rB (by omega) hl hd,vP]
theorem XY (h0:y<0) (hl:(am 10000 (-y).natAbs).length=1) (hd:nth (am 10000 (-y).natAbs) 0=1) : -y=((aW z y).den:Int):=by
 rw [rA h0,rB (by omega) hl hd,vQ]
theorem ED (h0:0<y):z / de z y=(aW z y).num:=by rw [iR (by omega)];exact vF
theorem EE (h0:0<y):y / de z y=((aW z y).den:Int):=by rw [iR (by omega)];exact vH
theorem EF (h0:y<0) : -z / de (-z) (-y)=(aW z y).num:=by rw [rA h0];exact vF
theorem EG (h0:y<0) : -y / de (-z) (-y)=((aW z y).den:Int):=by rw [rA h0];exact vH
def XZ (z y:Int) (t:Rat) (i j:Nat):List WP:=[fun w v=>ai w v z i,fun w v=>ai w v y j,fun w v=>ai w v 1 2,Arr 1 (df (1:Int)) 1,Ptr 1 ((df (1:Int)) 0),Ni ((nth (am 10000 (1:Int).natAbs) 0:Nat):Int),Dw t (i+j+2)]
def Yb:List Out:=[oD 0,oD 1]
def Yc:List Step:=[.base ⟨38,[1],oT,false⟩,.base ⟨34,[.lit (.ci .i64 1)],[⟨.agg [.s,.lit (.cb false)],[(0,0,2),(0,1,3)]⟩],false⟩,bQ [3] [oL (.ci .i64 1)] (aK 59),bQ [3,.lit (.ci .i64 0)] [oP 4] (aN 59),bQ [4] [oN 5] (aO 3),bQ [5,.lit (.ci .i64 1)] oT (au .eql)]
theorem Yd {t:Rat}{i:Nat} (_hk:i+j<=200000) (h0:y=0) (ht:aW z y=t):aj (ph (XZ z y t i j)) prog ⟨69,[0,1],[⟨sS,[(0,0,6)]⟩],false⟩:=aQ Yb [⟨.agg [.s,.b,.s,.lit (.cb false)],[(0,2,0),(2,2,2)]⟩] Yc func69 (by kernel_rfl) (lB (gK dD (decide_eq_true h0)) (lB (XR rfl rfl) (lB (iT (n:=1) (sz:=1) (F:=(df (1:Int))) rfl underlying59 ad) (lB (cI (n:=1) (sz:=1) 0 (F:=(df (1:Int))) underlying59 ad rfl (hi:=(by decide)) rfl) (lB (oH ad rfl) (lB (cB (op:=.eql) ad (fun t w=>by rw [<- show decide (((nth (am 10000 (1:Int).natAbs) 0:Nat):Int)=1)=true from (by decide +kernel)];rfl)) aD))))))
  (aM [.fact 0 (.agg [.s,.b]),.fact 1 (.agg [.s,.b])] ⟨fun _ _ h=>ai.is h,fun _ _ h=>ai.is h,trivial⟩) (jq (vS fun _ _ hs h1 h2=>af.join hs (ai.more (ai.fS h1 (by rw [<- ht];exact XT h0)) (by omega)) (ai.more (ai.fS h2 (by rw [<- ht];exact XU h0)) (by omega))))
def Ye (z y:Int) (t:Rat) (i j:Nat):List WP:=[fun w v=>ai w v z i,fun w v=>ai w v y j,Arr 1 (df y) 1,Ptr 1 ((df y) 0),Ni ((nth (am 10000 y.natAbs) 0:Nat):Int),Dw t (i+j+2)]
def Yf:List Out:=[oD 0,⟨.agg [.s,.lit (.cb false)],[(0,0,1),(0,1,2)]⟩]
def Yg:List Step:=[.base ⟨38,[1],oF,false⟩,bQ [2] [oL (.ci .i64 1)] (aK 59),bQ [2,.lit (.ci .i64 0)] [oP 3] (aN 59),bQ [3] [oN 4] (aO 3),bQ [4,.lit (.ci .i64 1)] oT (au .eql)]
theorem Yh {t:Rat}{i:Nat} (_hk:i+j<=200000) (h0:0<y) (ht:aW z y=t) (hl:(am 10000 y.natAbs).length=1) (hd:nth (am 10000 y.natAbs) 0=1):aj (ph (Ye z y t i j)) prog ⟨69,[0,1],[⟨sS,[(0,0,5)]⟩],false⟩:=by
 have hp:0<y:=h0
 exact aQ Yf [⟨.agg [.s,.b,.s,.lit (.cb false)],[(0,2,0),(2,2,1)]⟩] Yg func69 (by kernel_rfl) (lB (gK dD (decide_eq_false (by omega))) (lB (iT (n:=1) (sz:=1) (F:=(df y)) rfl underlying59 ad) (lB (cI (n:=1) (sz:=1) 0 (F:=(df y)) underlying59 ad rfl (hi:=(by decide)) rfl) (lB (oH ad rfl) (lB (cB (op:=.eql) ad (fun t w=>by rw [<- show decide (((nth (am 10000 y.natAbs) 0:Nat):Int)=1)=true from decide_eq_true (by rw [hd];rfl)];rfl)) aD)))))
  (aM [.fact 0 (.agg [.s,.b]),.sub 1 (.agg [.s,.lit (.cb false)]) [(0,1,2)]] ⟨fun _ _ h=>ai.is h,⟨fun _ _ h=>ai.isA h (decide_eq_false (by omega)),fun _ _ h=>ai.arr h (by omega) hl,trivial⟩,trivial⟩) (jq (vS fun _ _ hs h1 h2=>af.join hs (ai.more (ai.fS h1 (by rw [<- ht];exact XV h0 hl hd)) (by omega)) (ai.more (ai.fS h2 (by rw [<- ht];exact XW h0 hl hd)) (by omega))))
def Yi (z y:Int) (t:Rat) (i j:Nat):List WP:=[fun w v=>ai w v z i,fun w v=>ai w v y j,Arr 1 (df y) 1,Ptr 1 ((df y) 0),Ni ((nth (am 10000 y.natAbs) 0:Nat):Int),fun w v=>ai w v (de z y) (i+j),fun w v=>ai w v (z / (de z y)) i,fun w v=>ai w v (y / (de z y)) j,Dw t (i+j+2)]
def Yj:List Out:=[oD 0,⟨.agg [.s,.lit (.cb false)],[(0,0,1),(0,1,2)]⟩]
def Yk:List Step:=[.base ⟨38,[1],oF,false⟩,bQ [2] [oL (.ci .i64 1)] (aK 59),bQ [2,.lit (.ci .i64 0)] [oP 3] (aN 59),bQ [3] [oN 4] (aO 3),bQ [4,.lit (.ci .i64 1)] oF (au .eql),.base ⟨107,[0,1],[oD 5],false⟩,.base ⟨108,[0,5],[oD 6],false⟩,.base ⟨108,[1,5],[oD 7],false⟩]
theorem Ym {t:Rat}{i:Nat} (hk:i+j<=200000) (h0:0<y) (ht:aW z y=t) (hl:(am 10000 y.natAbs).length=1) (h1:nth (am 10000 y.natAbs) 0≠1):aj (ph (Yi z y t i j)) prog ⟨69,[0,1],[⟨sS,[(0,0,8)]⟩],false⟩:=by
 have hp:0<y:=h0
 exact aQ Yj [⟨.agg [.s,.b,.s,.b],[(0,2,6),(2,2,7)]⟩] Yk func69 (by kernel_rfl) (lB (gK dD (decide_eq_false (by omega))) (lB (iT (n:=1) (sz:=1) (F:=(df y)) rfl underlying59 ad) (lB (cI (n:=1) (sz:=1) 0 (F:=(df y)) underlying59 ad rfl (hi:=(by decide)) rfl) (lB (oH ad rfl) (lB (cB (op:=.eql) ad (fun t w=>by rw [<- show decide (((nth (am 10000 y.natAbs) 0:Nat):Int)=1)=false from decide_eq_false (by omega)];rfl)) (lB (oB (i+j) dD dD rfl (rz hp).symm) (lB (jo dD dD rfl (jX) (rn _ _) rfl) (lB (jo dD dD rfl (jX) (ro _ _) rfl) aD))))))))
  (aM [.fact 0 (.agg [.s,.b]),.sub 1 (.agg [.s,.lit (.cb false)]) [(0,1,2)]] ⟨fun _ _ h=>ai.is h,⟨fun _ _ h=>ai.isA h (decide_eq_false (by omega)),fun _ _ h=>ai.arr h (by omega) hl,trivial⟩,trivial⟩) (jq (halves fun _ _ hs h1 h2=>af.join hs (ai.more (ai.fS h1 (by rw [<- ht];exact ED h0)) (by omega)) (ai.more (ai.fS h2 (by rw [<- ht];exact EE h0)) (by omega))))
def Yn (z y:Int) (t:Rat) (i j n:Nat):List WP:=[fun w v=>ai w v z i,fun w v=>ai w v y j,Arr 1 (df y) n,Nz n,fun w v=>ai w v (de z y) (i+j),fun w v=>ai w v (z / (de z y)) i,fun w v=>ai w v (y / (de z y)) j,Dw t (i+j+2)]
def Yo:List Out:=[oD 0,⟨.agg [.s,.lit (.cb false)],[(0,0,1),(0,1,2)]⟩]
def Yp:List Step:=[.base ⟨38,[1],oF,false⟩,bQ [2] [oN 3] (aK 59),bQ [3,.lit (.ci .i64 1)] oF (au .eql),.base ⟨107,[0,1],[oD 4],false⟩,.base ⟨108,[0,4],[oD 5],false⟩,.base ⟨108,[1,4],[oD 6],false⟩]
theorem Yq {t:Rat}{i:Nat} (hk:i+j<=200000) (h0:0<y) (ht:aW z y=t) (hl:(am 10000 y.natAbs).length=n) (hl1:n≠1)  : aj (ph (Yn z y t i j n)) prog ⟨69,[0,1],[⟨sS,[(0,0,7)]⟩],false⟩:=by
 have hp:0<y:=h0
 exact aQ Yo [⟨.agg [.s,.b,.s,.b],[(0,2,5),(2,2,6)]⟩] Yp func69 (by kernel_rfl) (lB (gK dD (decide_eq_false (by omega))) (lB (nD (sz:=1) (n:=n) (F:=(df y)) underlying59 ad rfl) (lB (cB (op:=.eql) ad (fun t w=>by rw [<- show decide (((n:Nat):Int)=1)=false from decide_eq_false (by omega)];rfl)) (lB (oB (i+j) dD dD rfl (rz hp).symm) (lB (jo dD dD rfl (jX) (rn _ _) rfl) (lB (jo dD dD rfl (jX) (ro _ _) rfl) aD))))))
  (aM [.fact 0 (.agg [.s,.b]),.sub 1 (.agg [.s,.lit (.cb false)]) [(0,1,2)]] ⟨fun _ _ h=>ai.is h,⟨fun _ _ h=>ai.isA h (decide_eq_false (by omega)),fun _ _ h=>ai.arr h (by omega) hl,trivial⟩,trivial⟩) (jq (halves fun _ _ hs h1 h2=>af.join hs (ai.more (ai.fS h1 (by rw [<- ht];exact ED h0)) (by omega)) (ai.more (ai.fS h2 (by rw [<- ht];exact EE h0)) (by omega))))
def Yr (z y:Int) (t:Rat) (i j:Nat):List WP:=[fun w v=>ai w v z i,fun w v=>ai w v y j,fun w v=>ai w v (-z) i,fun w v=>ai w v (-y) j,Arr 1 (df (-y)) 1,Ptr 1 ((df (-y)) 0),Ni ((nth (am 10000 (-y).natAbs) 0:Nat):Int),Dw t (i+j+2)]
def Ys:List Out:=[oD 0,⟨.agg [.s,.lit (.cb true)],[(0,0,1)]⟩]
def Yt:List Step:=[.base ⟨38,[1],oF,false⟩,.base ⟨106,[0],[oD 2],false⟩,.base ⟨106,[1],[⟨.agg [.s,.lit (.cb false)],[(0,0,3),(0,1,4)]⟩],false⟩,bQ [4] [oL (.ci .i64 1)] (aK 59),bQ [4,.lit (.ci .i64 0)] [oP 5] (aN 59),bQ [5] [oN 6] (aO 3),bQ [6,.lit (.ci .i64 1)] oT (au .eql)]
theorem Yu {t:Rat}{i:Nat} (_hk:i+j<=200000) (h0:y<0) (ht:aW z y=t) (hl:(am 10000 (-y).natAbs).length=1) (hd:nth (am 10000 (-y).natAbs) 0=1):aj (ph (Yr z y t i j)) prog ⟨69,[0,1],[⟨sS,[(0,0,7)]⟩],false⟩:=by
 have hp:0 < -y:=by omega
 exact aQ Ys [⟨.agg [.s,.b,.s,.lit (.cb false)],[(0,2,2),(2,2,3)]⟩] Yt func69 (by kernel_rfl) (lB (gK dD (decide_eq_false (by omega))) (lB (vT dD rfl rfl) (lB (vR dD rfl rfl h0 hl) (lB (iT (n:=1) (sz:=1) (F:=(df (-y))) rfl underlying59 ad) (lB (cI (n:=1) (sz:=1) 0 (F:=(df (-y))) underlying59 ad rfl (hi:=(by decide)) rfl) (lB (oH ad rfl) (lB (cB (op:=.eql) ad (fun t w=>by rw [<- show decide (((nth (am 10000 (-y).natAbs) 0:Nat):Int)=1)=true from decide_eq_true (by rw [hd];rfl)];rfl)) aD)))))))
  (aM [.fact 0 (.agg [.s,.b]),.fact 1 (.agg [.s,.lit (.cb true)])] ⟨fun _ _ h=>ai.is h,fun _ _ h=>ai.isA h (decide_eq_true (by omega)),trivial⟩) (jq (vS fun _ _ hs h1 h2=>af.join hs (ai.more (ai.fS h1 (by rw [<- ht];exact XX h0 hl hd)) (by omega)) (ai.more (ai.fS h2 (by rw [<- ht];exact XY h0 hl hd)) (by omega))))
def Yw (z y:Int) (t:Rat) (i j:Nat):List WP:=[fun w v=>ai w v z i,fun w v=>ai w v y j,fun w v=>ai w v (-z) i,fun w v=>ai w v (-y) j,Arr 1 (df (-y)) 1,Ptr 1 ((df (-y)) 0),Ni ((nth (am 10000 (-y).natAbs) 0:Nat):Int),fun w v=>ai w v (de (-z) (-y)) (i+j),fun w v=>ai w v ((-z) / (de (-z) (-y))) i,fun w v=>ai w v ((-y) / (de (-z) (-y))) j,Dw t (i+j+2)]
def Yx:List Out:=[oD 0,⟨.agg [.s,.lit (.cb true)],[(0,0,1)]⟩]
def Yy:List Step:=[.base ⟨38,[1],oF,false⟩,.base ⟨106,[0],[oD 2],false⟩,.base ⟨106,[1],[⟨.agg [.s,.lit (.cb false)],[(0,0,3),(0,1,4)]⟩],false⟩,bQ [4] [oL (.ci .i64 1)] (aK 59),bQ [4,.lit (.ci .i64 0)] [oP 5] (aN 59),bQ [5] [oN 6] (aO 3),bQ [6,.lit (.ci .i64 1)] oF (au .eql),.base ⟨107,[2,3],[oD 7],false⟩,.base ⟨108,[2,7],[oD 8],false⟩,.base ⟨108,[3,7],[oD 9],false⟩]
theorem YA {t:Rat}{i:Nat} (hk:i+j<=200000) (h0:y<0) (ht:aW z y=t) (hl:(am 10000 (-y).natAbs).length=1) (h1:nth (am 10000 (-y).natAbs) 0≠1):aj (ph (Yw z y t i j)) prog ⟨69,[0,1],[⟨sS,[(0,0,10)]⟩],false⟩:=by
 have hp:0 < -y:=by omega
 exact aQ Yx [⟨.agg [.s,.b,.s,.b],[(0,2,8),(2,2,9)]⟩] Yy func69 (by kernel_rfl) (lB (gK dD (decide_eq_false (by omega))) (lB (vT dD rfl rfl) (lB (vR dD rfl rfl h0 hl) (lB (iT (n:=1) (sz:=1) (F:=(df (-y))) rfl underlying59 ad) (lB (cI (n:=1) (sz:=1) 0 (F:=(df (-y))) underlying59 ad rfl (hi:=(by decide)) rfl) (lB (oH ad rfl) (lB (cB (op:=.eql) ad (fun t w=>by rw [<- show decide (((nth (am 10000 (-y).natAbs) 0:Nat):Int)=1)=false from decide_eq_false (by omega)];rfl)) (lB (oB (i+j) dD dD rfl (rz hp).symm) (lB (jo dD dD rfl (jX) (rn _ _) rfl) (lB (jo dD dD rfl (jX) (ro _ _) rfl) aD))))))))))
  (aM [.fact 0 (.agg [.s,.b]),.fact 1 (.agg [.s,.lit (.cb true)])] ⟨fun _ _ h=>ai.is h,fun _ _ h=>ai.isA h (decide_eq_true (by omega)),trivial⟩) (jq (halves fun _ _ hs h1 h2=>af.join hs (ai.more (ai.fS h1 (by rw [<- ht];exact EF h0)) (by omega)) (ai.more (ai.fS h2 (by rw [<- ht];exact EG h0)) (by omega))))
def YB (z y:Int) (t:Rat) (i j n:Nat):List WP:=[fun w v=>ai w v z i,fun w v=>ai w v y j,fun w v=>ai w v (-z) i,fun w v=>ai w v (-y) j,Arr 1 (df (-y)) n,Nz n,fun w v=>ai w v (de (-z) (-y)) (i+j),fun w v=>ai w v ((-z) / (de (-z) (-y))) i,fun w v=>ai w v ((-y) / (de (-z) (-y))) j,Dw t (i+j+2)]
def YC:List Out:=[oD 0,⟨.agg [.s,.lit (.cb true)],[(0,0,1)]⟩]
def YD:List Step:=[.base ⟨38,[1],oF,false⟩,.base ⟨106,[0],[oD 2],false⟩,.base ⟨106,[1],[⟨.agg [.s,.lit (.cb false)],[(0,0,3),(0,1,4)]⟩],false⟩,bQ [4] [oN 5] (aK 59),bQ [5,.lit (.ci .i64 1)] oF (au .eql),.base ⟨107,[2,3],[oD 6],false⟩,.base ⟨108,[2,6],[oD 7],false⟩,.base ⟨108,[3,6],[oD 8],false⟩]
theorem YE {t:Rat}{i:Nat} (hk:i+j<=200000) (h0:y<0) (ht:aW z y=t) (hl:(am 10000 (-y).natAbs).length=n) (hl1:n≠1)  : aj (ph (YB z y t i j n)) prog ⟨69,[0,1],[⟨sS,[(0,0,9)]⟩],false⟩:=by
 have hp:0 < -y:=by omega
 exact aQ YC [⟨.agg [.s,.b,.s,.b],[(0,2,7),(2,2,8)]⟩] YD func69 (by kernel_rfl) (lB (gK dD (decide_eq_false (by omega))) (lB (vT dD rfl rfl) (lB (vR dD rfl rfl h0 hl) (lB (nD (sz:=1) (n:=n) (F:=(df (-y))) underlying59 ad rfl) (lB (cB (op:=.eql) ad (fun t w=>by rw [<- show decide (((n:Nat):Int)=1)=false from decide_eq_false (by omega)];rfl)) (lB (oB (i+j) dD dD rfl (rz hp).symm) (lB (jo dD dD rfl (jX) (rn _ _) rfl) (lB (jo dD dD rfl (jX) (ro _ _) rfl) aD))))))))
  (aM [.fact 0 (.agg [.s,.b]),.fact 1 (.agg [.s,.lit (.cb true)])] ⟨fun _ _ h=>ai.is h,fun _ _ h=>ai.isA h (decide_eq_true (by omega)),trivial⟩) (jq (halves fun _ _ hs h1 h2=>af.join hs (ai.more (ai.fS h1 (by rw [<- ht];exact EF h0)) (by omega)) (ai.more (ai.fS h2 (by rw [<- ht];exact EG h0)) (by omega))))
end
end Go.Proofs.YtbjfgffibepmkaaGreat.Sym
namespace Go.Proofs.YtbjfgffibepmkaaGreat
open Go.Proofs.Tryz
variable {u v:Value}{y z:Int}{j:Nat}{w:World}
theorem Sym.lm {Φ:PH}{i:Nat} (h0:Φ 0=fun w v=>ai w v z i) (h1:Φ 1=fun w v=>ai w v y j) (hx:ai w v z i) (hy:ai w u y j):Sym.cQ Φ (fun _=>False) w [0,1] [v,u]:=
 ⟨Sym.mG h0 (fun _ _ _ g h=>ai.kp h g) hx,Sym.mG h1 (fun _ _ _ g h=>ai.kp h g) hy,trivial⟩
theorem YF {t:Rat}{i:Nat} (hx:ai w v z i) (hy:ai w u y j) (hk:i+j<=200000) (ht:aW z y=t):Calls prog 69 #[v,u] w (jp w t (i+j+2)):=by
 rcases Int.lt_trichotomy y 0 with h | h | h
 ·by_cases hl:(am 10000 (-y).natAbs).length=1
  ·by_cases hd:nth (am 10000 (-y).natAbs) 0=1
   ·exact Sym.iX (Sym.Yu hk h ht hl hd) rfl (vs:=[v,u]) (Sym.lm rfl rfl hx hy)
   ·exact Sym.iX (Sym.YA hk h ht hl hd) rfl (vs:=[v,u]) (Sym.lm rfl rfl hx hy)
  ·exact Sym.iX (Sym.YE hk h ht rfl hl) rfl (vs:=[v,u]) (Sym.lm rfl rfl hx hy)
 ·exact Sym.iX (Sym.Yd hk h ht) rfl (vs:=[v,u]) (Sym.lm rfl rfl hx hy)
 ·by_cases hl:(am 10000 y.natAbs).length=1
  ·by_cases hd:nth (am 10000 y.natAbs) 0=1
   ·exact Sym.iX (Sym.Yh hk h ht hl hd) rfl (vs:=[v,u]) (Sym.lm rfl rfl hx hy)
   ·exact Sym.iX (Sym.Ym hk h ht hl hd) rfl (vs:=[v,u]) (Sym.lm rfl rfl hx hy)
  ·exact Sym.iX (Sym.Yq hk h ht rfl hl) rfl (vs:=[v,u]) (Sym.lm rfl rfl hx hy)
end Go.Proofs.YtbjfgffibepmkaaGreat
namespace Go.Proofs.YtbjfgffibepmkaaGreat.Sym
open Go.Proofs.Tryz
open Go.RowKit
variable {j k p x x' x1 x2:Nat}{q r t:Rat}{y z:Int}{w:World}{u v:Value}{xs ys:List Nat}{b b':Bool}
section
variable {Φ:PH}
theorem zi (q:Rat):(q.den:Int)≠0:=by have:=q.den_nz;omega
theorem _root_.Go.Proofs.YtbjfgffibepmkaaGreat.mH (q:Rat):(q.den:Int)≠0:=zi q
theorem _root_.Go.Proofs.YtbjfgffibepmkaaGreat.den_pos (q:Rat):0<(q.den:Int):=by have:=q.den_nz;omega
theorem _root_.Go.Proofs.YtbjfgffibepmkaaGreat.YG (q r:Rat):aW (q.num*r.den+r.num*q.den) (q.den*r.den)=q+r:=by
 rw [iR (Int.mul_ne_zero (mH q) (mH r)),<- Rat.divInt_add_divInt _ _ (mH q) (mH r),Rat.num_divInt_den,Rat.num_divInt_den]
theorem _root_.Go.Proofs.YtbjfgffibepmkaaGreat.YH (q r:Rat):aW (q.num*r.num) (q.den*r.den)=q*r:=by
 rw [iR (Int.mul_ne_zero (mH q) (mH r)),<- Rat.divInt_mul_divInt,Rat.num_divInt_den,Rat.num_divInt_den]
theorem jH {q i:Nat} (hp:∀w v,Φ p w v->ai w v z i) (hq:∀w v,Φ q w v->ai w v y j) (hx:Φ x=Dw t (i+j+2)) (hx1:Φ x1=fun w v=>ai w v t.num (i+j+2)) (hx2:Φ x2=fun w v=>ai w v (t.den:Int) (i+j+2)) (ht:aW z y=t) (hk:i+j<=200000:=by omega):aj Φ prog ⟨69,[.fact p,.fact q],[⟨sS,[(0,0,x),(0,2,x1),(2,2,x2)]⟩],false⟩:=
 fw fun _ _ _ _ h0 h1=>(YF (hp _ _ (get h0)) (hq _ _ (get h1)) hk ht).mono fun _ _ h=>oz hx hx1 hx2 h
theorem EH {t z:Int} (hp:∀w v,Φ p w v->v = .int .i64 z) (hx:Φ x=fun w v=>ai w v t 2) (h1 : -9223372036854775808<=z) (h2:z<=9223372036854775807) (ht:z=t):aj Φ prog ⟨34,[.fact p],[⟨dS,[(0,0,x)]⟩],false⟩:=
 fU fun _ w v h0=>by
  obtain rfl:=hp _ _ (get h0)
  exact (vJ z h1 h2 ht).mono fun _ _ h=>ke hx h
def YI (x y:Int) (t:Rat):List WP:=[Ni x,Ni y,fun w v=>ai w v x 2,fun w v=>ai w v y 2,Dw t (2+2+2),fun w v=>ai w v t.num (2+2+2),fun w v=>ai w v (t.den:Int) (2+2+2)]
def YJ:List Out:=[oN 0,oN 1]
def YK:List Step:=[.base ⟨34,[0],[oD 2],false⟩,.base ⟨34,[1],[oD 3],false⟩,.base ⟨69,[2,3],[⟨.agg [.s,.b,.s,.b],[(0,0,4),(0,2,5),(2,2,6)]⟩],false⟩]
theorem ofr {x:Int} (x1 : -9223372036854775808<=x) (x2:x<=9223372036854775807) (y1 : -9223372036854775808<=y) (y2:y<=9223372036854775807) (ht:aW x y=t):aj (ph (YI x y t)) prog ⟨66,[0,1],[oQ 4],false⟩:=
 aQ YJ [oQ 4] YK func66 (by kernel_rfl) (lB (EH ad rfl x1 x2 rfl) (lB (EH ad rfl y1 y2 rfl) (lB (jH dD dD rfl rfl rfl ht) aD)))
  (aM [.fact 0 (.one (.i)),.fact 1 (.one (.i))] ⟨fun _ _ h=>⟨⟨_,h⟩,fun _ e=>by rw [h] at e;cases e⟩,fun _ _ h=>⟨⟨_,h⟩,fun _ e=>by rw [h] at e;cases e⟩,trivial⟩) aV
theorem _root_.Go.Proofs.YtbjfgffibepmkaaGreat.CY (x y:Int) (x1 : -9223372036854775808<=x) (x2:x<=9223372036854775807) (y1 : -9223372036854775808<=y) (y2:y<=9223372036854775807) (ht:aW x y=t):Calls prog 66 #[.int .i64 x,.int .i64 y] w (jp w t 6):=iX (ofr x1 x2 y1 y2 ht) rfl (vs:=[.int .i64 x,.int .i64 y]) ⟨fun _ _=>rfl,fun _ _=>rfl,trivial⟩
theorem yP  (hx:Φ x=Dw t 6) (hx1:Φ x1=fun w v=>ai w v t.num 6) (hx2:Φ x2=fun w v=>ai w v (t.den:Int) 6) (ht:aW z y=t) (z1:-9223372036854775808<=z:=by decide) (z2:z<=9223372036854775807:=by decide) (y1:-9223372036854775808<=y:=by decide) (y2:y<=9223372036854775807:=by decide):aj Φ prog ⟨66,[.lit (.ci .i64 z),.lit (.ci .i64 y)],[⟨sS,[(0,0,x),(0,2,x1),(2,2,x2)]⟩],false⟩:=
 fw fun _ w v u h0 h1=>by
  obtain rfl:v = .int .i64 z:=h0
  obtain rfl:u = .int .i64 y:=h1
  exact (CY z y z1 z2 y1 y2 ht).mono fun _ _ h=>oz hx hx1 hx2 h
def YL (q r t:Rat) (i j:Nat):List WP:=[Dw q i,fun w v=>ai w v q.num i,fun w v=>ai w v (q.den:Int) i,Dw r j,fun w v=>ai w v r.num j,fun w v=>ai w v (r.den:Int) j,fun w v=>ai w v (q.num*(r.den:Int)) (i+j),fun w v=>ai w v (r.num*(q.den:Int)) (j+i),fun w v=>ai w v ((q.num*(r.den:Int))+(r.num*(q.den:Int))) ((i+j)+(j+i)+1),fun w v=>ai w v ((q.den:Int)*(r.den:Int)) (i+j),Dw t (((i+j)+(j+i)+1)+(i+j)+2),fun w v=>ai w v t.num (((i+j)+(j+i)+1)+(i+j)+2),fun w v=>ai w v (t.den:Int) (((i+j)+(j+i)+1)+(i+j)+2),Dw t (3*(i+j)+3)]
def YM:List Out:=[⟨.agg [.s,.b,.s,.b],[(0,0,0),(0,2,1),(2,2,2)]⟩,⟨.agg [.s,.b,.s,.b],[(0,0,3),(0,2,4),(2,2,5)]⟩]
def YN:List Step:=[.base ⟨36,[1,5],[oD 6],false⟩,.base ⟨36,[4,2],[oD 7],false⟩,.base ⟨81,[6,7],[oD 8],false⟩,.base ⟨36,[2,5],[oD 9],false⟩,.base ⟨69,[8,9],[⟨.agg [.s,.b,.s,.b],[(0,0,10),(0,2,11),(2,2,12)]⟩],false⟩]
theorem addr {i:Nat} (hk:i+j<=50000) (ht:q+r=t):aj (ph (YL q r t i j)) prog ⟨90,[0,3],[⟨sS,[(0,0,13)]⟩],false⟩:=
 aQ YM [oQ 10] YN func90 (by kernel_rfl) (lB (mC dD dD rfl rfl) (lB (mC dD dD rfl rfl) (lB (YO dD dD rfl rfl) (lB (mC dD dD rfl rfl) (lB (jH dD dD rfl rfl rfl (by rw [<- ht,YG])) aD)))))
  (aM [.sub 0 (.agg [.s,.b,.s,.b]) [(0,2,1),(2,2,2)],.sub 3 (.agg [.s,.b,.s,.b]) [(0,2,4),(2,2,5)]] ⟨⟨fun _ _ h=>af.is h,fun _ _ h=>af.fst h,fun _ _ h=>af.snd h,trivial⟩,⟨fun _ _ h=>af.is h,fun _ _ h=>af.fst h,fun _ _ h=>af.snd h,trivial⟩,trivial⟩) (jq (weak fun _ _ h=>af.more h (by omega)))
theorem _root_.Go.Proofs.YtbjfgffibepmkaaGreat.YP {i:Nat} (hx:af w v q i) (hy:af w u r j) (hk:i+j<=50000) (ht:q+r=t):Calls prog 90 #[v,u] w (jp w t (3*(i+j)+3)):=iX (addr (q:=q) (r:=r) (i:=i) (j:=j) hk ht) rfl (vs:=[v,u]) ⟨mG rfl (fun _ _ _ g h=>af.kp h g) hx,mG rfl (fun _ _ _ g h=>af.kp h g) hy,trivial⟩
theorem yO {q i:Nat}{z:Rat}{y:Rat} (hp:∀w v,Φ p w v->af w v z i) (hq:∀w v,Φ q w v->af w v y j) (hx:Φ x=Dw t (3*(i+j)+3)) (hx1:Φ x1=fun w v=>ai w v t.num (3*(i+j)+3)) (hx2:Φ x2=fun w v=>ai w v (t.den:Int) (3*(i+j)+3)) (ht:z+y=t) (hk:i+j<=50000:=by omega):aj Φ prog ⟨90,[.fact p,.fact q],[⟨sS,[(0,0,x),(0,2,x1),(2,2,x2)]⟩],false⟩:=
 fw fun _ _ _ _ h0 h1=>(YP (hp _ _ (get h0)) (hq _ _ (get h1)) hk ht).mono fun _ _ h=>oz hx hx1 hx2 h
def YQ (q r t:Rat) (i j:Nat):List WP:=[Dw q i,fun w v=>ai w v q.num i,fun w v=>ai w v (q.den:Int) i,Dw r j,fun w v=>ai w v r.num j,fun w v=>ai w v (r.den:Int) j,fun w v=>ai w v (q.num*r.num) (i+j),fun w v=>ai w v ((q.den:Int)*(r.den:Int)) (i+j),Dw t ((i+j)+(i+j)+2),fun w v=>ai w v t.num ((i+j)+(i+j)+2),fun w v=>ai w v (t.den:Int) ((i+j)+(i+j)+2),Dw t (2*(i+j)+2)]
def YR:List Out:=[⟨.agg [.s,.b,.s,.b],[(0,0,0),(0,2,1),(2,2,2)]⟩,⟨.agg [.s,.b,.s,.b],[(0,0,3),(0,2,4),(2,2,5)]⟩]
def YS:List Step:=[.base ⟨36,[1,4],[oD 6],false⟩,.base ⟨36,[2,5],[oD 7],false⟩,.base ⟨69,[6,7],[⟨.agg [.s,.b,.s,.b],[(0,0,8),(0,2,9),(2,2,10)]⟩],false⟩]
theorem YT {i:Nat} (hk:i+j<=50000) (ht:q*r=t):aj (ph (YQ q r t i j)) prog ⟨91,[0,3],[⟨sS,[(0,0,11)]⟩],false⟩:=
 aQ YR [oQ 8] YS func91 (by kernel_rfl) (lB (mC dD dD rfl rfl) (lB (mC dD dD rfl rfl) (lB (jH dD dD rfl rfl rfl (by rw [<- ht,YH])) aD)))
  (aM [.sub 0 (.agg [.s,.b,.s,.b]) [(0,2,1),(2,2,2)],.sub 3 (.agg [.s,.b,.s,.b]) [(0,2,4),(2,2,5)]] ⟨⟨fun _ _ h=>af.is h,fun _ _ h=>af.fst h,fun _ _ h=>af.snd h,trivial⟩,⟨fun _ _ h=>af.is h,fun _ _ h=>af.fst h,fun _ _ h=>af.snd h,trivial⟩,trivial⟩) (jq (weak fun _ _ h=>af.more h (by omega)))
theorem _root_.Go.Proofs.YtbjfgffibepmkaaGreat.YU {i:Nat} (hx:af w v q i) (hy:af w u r j) (hk:i+j<=50000) (ht:q*r=t):Calls prog 91 #[v,u] w (jp w t (2*(i+j)+2)):=iX (YT (q:=q) (r:=r) (i:=i) (j:=j) hk ht) rfl (vs:=[v,u]) ⟨mG rfl (fun _ _ _ g h=>af.kp h g) hx,mG rfl (fun _ _ _ g h=>af.kp h g) hy,trivial⟩
theorem ze {q i:Nat}{z:Rat}{y:Rat} (hp:∀w v,Φ p w v->af w v z i) (hq:∀w v,Φ q w v->af w v y j) (hx:Φ x=Dw t (2*(i+j)+2)) (hx1:Φ x1=fun w v=>ai w v t.num (2*(i+j)+2)) (hx2:Φ x2=fun w v=>ai w v (t.den:Int) (2*(i+j)+2)) (ht:z*y=t) (hk:i+j<=50000:=by omega):aj Φ prog ⟨91,[.fact p,.fact q],[⟨sS,[(0,0,x),(0,2,x1),(2,2,x2)]⟩],false⟩:=
 fw fun _ _ _ _ h0 h1=>(YU (hp _ _ (get h0)) (hq _ _ (get h1)) hk ht).mono fun _ _ h=>oz hx hx1 hx2 h
theorem _root_.Go.Proofs.YtbjfgffibepmkaaGreat.ak.nor  (h:ak w v z k):gg w v z:=h.1
theorem Sz {q i j:Nat}{r:Bool} (hp:∀w v,Φ p w v->ai w v z i) (hq:∀w v,Φ q w v->ak w v y j) (he:z=y) (hr:true=r) (hk:i<=1000000:=by omega):aj Φ prog ⟨48,[.fact p,.fact q],[oL (.cb r)],false⟩:=
 fw fun _ _ _ _ h0 h1=>(hr▸XK (hp _ _ (get h0)) hk (he▸(hq _ _ (get h1)).1)).mono fun _ _ h=>vU h
theorem ek.fst  (h:ek w v q k):ak w (bn 0 2 v) q.num k:=by obtain ⟨_,_,_,_,_,_,_,_,rfl,h1,_⟩:=h;exact h1
theorem ek.snd  (h:ek w v q k):ak w (bn 2 2 v) (q.den:Int) k:=by obtain ⟨_,_,_,_,_,_,_,_,rfl,_,h2⟩:=h;exact h2
theorem _root_.Go.Proofs.YtbjfgffibepmkaaGreat.YV {p:Option Addr}{cap m:Nat} (hx:Sl w .u32 (.slice p xs.length cap) xs) (hm:(xs.take k).length=m):Sl w .u32 (.slice p m cap) (xs.take k):=by
 have:=hx.take (min xs.length k) (Nat.min_le_left _ _)
 rw [show xs.take (min xs.length k)=xs.take k by
  rcases Nat.le_total xs.length k with h | h
  ·rw [Nat.min_eq_left h,List.take_length,List.take_of_length_le h]
  ·rw [Nat.min_eq_right h]] at this
 rw [<- hm,List.length_take,Nat.min_comm]
 exact this
theorem aH.i  (k:Nat) (h:aH w v b xs) (hk:xs.length<=k):aF w v (sg b (Proofs.YtbjfgffibepmkaaGreat.val 4294967296 xs)) k:=by
 obtain ⟨s,rfl,h1,h2⟩:=h
 exact ⟨_,_,_,rfl,Num.row h1 h2 k hk,rfl⟩
theorem YW  (k:Nat){ki:Int} (hki:(k:Int)=ki) (hp:∀w v,Φ p w v->aH w v b xs) (hx:Φ x=fun w v=>aH w v b (xs.take k)) (hx':Φ x'=Iw z k) (hz:sg b (Proofs.YtbjfgffibepmkaaGreat.val 4294967296 (xs.take k))=z):aj Φ prog ⟨83,[.fact p,.lit (.ci .i64 ki)],[⟨iS,[(0,0,x),(0,0,x')]⟩],false⟩:=
 fw fun _ w v u h0 h1=>by
  subst hki
  obtain rfl:u = .int .i64 k:=h1
  obtain ⟨s,rfl,a1,a2⟩:=hp _ _ (get h0)
  obtain ⟨p,c,rfl,c1,-⟩:=id a1
  obtain ⟨m,hm⟩:∃m,(xs.take k).length=m:=⟨_,rfl⟩
  refine (XM k c1 hm).mono fun e w' ⟨he,g⟩=>⟨g,[_],he,⟨ow,fun q hq w1 hw=>?_⟩,trivial⟩
  have r:aH w1 (.agg #[.bool b,.slice p m c]) b (xs.take k):=aH.kp ⟨_,rfl,(YV a1 hm).kp (Kp.of g),a2.take k⟩ hw.1
  simp only [List.mem_cons,List.not_mem_nil,or_false] at hq
  rcases hq with rfl | rfl
  ·show Φ x w1 _;rw [hx];exact r
  ·show Φ x' w1 _;rw [hx'];exact hz▸aH.i k r (by rw [List.length_take];omega)
theorem fH.fst  (h:fH w v b xs b' ys):aH w (bn 0 2 v) b xs:=by obtain ⟨s,s',rfl,h1,h2,h3,h4⟩:=h;exact ⟨_,rfl,h1,h2⟩
theorem fH.snd  (h:fH w v b xs b' ys):aH w (bn 2 2 v) b' ys:=by obtain ⟨s,s',rfl,h1,h2,h3,h4⟩:=h;exact ⟨_,rfl,h3,h4⟩
theorem fH.join  (hs:qS.is v) (h1:aH w (bn 0 2 v) b xs) (h2:aH w (bn 2 2 v) b' ys):fH w v b xs b' ys:=by
 obtain ⟨vs,rfl,h⟩:=hs
 match vs,h with
 | [v0,v1,v2,v3],h=>
  obtain ⟨s,e,a1,a2⟩:=h1
  obtain ⟨s',e',a3,a4⟩:=h2
  have e1:(Value.agg #[v0,v1]) = .agg #[.bool b,s]:=e
  have e2:(Value.agg #[v2,v3]) = .agg #[.bool b',s']:=e'
  simp only [Value.agg.injEq,Array.mk.injEq,List.cons.injEq,and_true] at e1 e2
  obtain ⟨rfl,rfl⟩:=e1
  obtain ⟨rfl,rfl⟩:=e2
  exact ⟨_,_,rfl,a1,a2,a3,a4⟩
theorem Rz {q:Nat} (k:Nat) (hp:∀w v,Φ p w v->aH w v b xs) (hq:∀w v,Φ q w v->v = .int .i64 (k:Int)) (hx:Φ x=fun w v=>aH w v b (xs.take k)) (hx':Φ x'=Iw z k) (hz:sg b (Proofs.YtbjfgffibepmkaaGreat.val 4294967296 (xs.take k))=z):aj Φ prog ⟨83,[.fact p,.fact q],[⟨iS,[(0,0,x),(0,0,x')]⟩],false⟩:=fun X w vs hX ha=>by
 match vs,ha with
 | [v,u],ha=>
  exact YW k rfl hp hx hx' hz X w [v,u] hX ⟨ha.1,hq _ _ (get ha.2.1),trivial⟩
def rC (w:World) (v:Value) (xs:List Nat):Prop:=Sl w .u32 v xs∧All 4294967296 xs
theorem rC.kp {w':World} (h:rC w v xs) (g:Kp w w'):rC w' v xs:=⟨h.1.kp g,h.2⟩
theorem aH.sl  (h:aH w v b xs):rC w (bn 1 1 v) xs:=by obtain ⟨s,rfl,h1,h2⟩:=h;exact ⟨h1,h2⟩
theorem fH.qv  (k:Nat){u:Int} (h:fH w v b xs b' ys) (h1:xs.length<=k) (h2:ys.length<=k) (hz:sg b (Proofs.YtbjfgffibepmkaaGreat.val 4294967296 xs)=z) (hu:sg b' (Proofs.YtbjfgffibepmkaaGreat.val 4294967296 ys)=u):QV w v z u k:=
 QV.join (fH.is h) (hz▸aH.i k (fH.fst h) h1) (hu▸aH.i k (fH.snd h) h2) (Nat.le_refl _) (Nat.le_refl _)
end
end Go.Proofs.YtbjfgffibepmkaaGreat.Sym
