/- Ratio's functions by the -/
import Derived.Test.YtomamliepbhegaaGreatSymS
set_option maxRecDepth 100000
namespace Go.Proofs.YtomamliepbhegaaGreat.Sym
open Go.Proofs.Tryz
open Go.RowKit
variable {w:World}{v:Value}{b:Bool}{y z:Int}{k:Nat}
section
variable {Φ:PH}
def QVb (w:World) (v:Value) (b:Bool) (z y:Int) (k:Nat):Prop:=∃s b' s',v = .agg #[.bool b,s,.bool b',s']∧Num w s z.natAbs k∧z=sg b z.natAbs∧aE w (.agg #[.bool b',s']) y k
theorem QVb.kp {w':World} (h:QVb w v b z y k) (g:Kp w w'):QVb w' v b z y k:=by
 obtain ⟨s,b',s',h1,h2,h3,h4⟩:=h
 exact ⟨s,b',s',h1,h2.kp g,h3,h4.kp g⟩
theorem QV.vb  (h:QV w v z y k):∃b,QVb w v b z y k:=by
 obtain ⟨b,p,n,c,b',p',n',c',rfl,h1,h2⟩:=h
 obtain ⟨b1,s1,X,e,h3,h4⟩:=h1
 simp only [Value.agg.injEq,Array.mk.injEq,List.cons.injEq,Value.bool.injEq,and_true] at e
 obtain ⟨rfl,rfl⟩:=e
 have e2:z.natAbs=X:=by rw [h4];exact eK _ _
 exact ⟨b,_,b',_,rfl,by rw [e2];exact h3,by rw [e2];exact h4,h2⟩
theorem QVb.is  (h:QVb w v b z y k):(bK.agg [.lit (.cb b),.s,.b,.s]).is v:=by
 obtain ⟨s,b',s',rfl,h1,h2,h3⟩:=h
 obtain ⟨p,n,c,rfl⟩:=h1.slice
 obtain ⟨b2,p',n',c',e,h3⟩:=h3.open
 simp only [Value.agg.injEq,Array.mk.injEq,List.cons.injEq,Value.bool.injEq,and_true] at e
 obtain ⟨rfl,rfl⟩:=e
 exact ⟨[_,_,_,_],rfl,rfl,⟨_,_,_,rfl⟩,⟨_,rfl⟩,⟨_,_,_,rfl⟩,trivial⟩
theorem QVb.num  (h:QVb w v b z y k):Num w (bw 1 1 v) z.natAbs k:=by
 obtain ⟨s,b',s',rfl,h1,h2,h3⟩:=h;exact h1
theorem QVb.snd  (h:QVb w v b z y k):aE w (bw 2 2 v) y k:=by
 obtain ⟨s,b',s',rfl,h1,h2,h3⟩:=h;exact h3
end
end Go.Proofs.YtomamliepbhegaaGreat.Sym
namespace Go.Proofs.YtomamliepbhegaaGreat
open Go.Proofs.Tryz
open Go.RowKit
variable {w:World}{X c cap j k n:Nat}{p:Option Addr}{y z:Int}{b:Bool}
theorem adQ {c:Bool} (b:Bool) (h:cF w (.slice p n cap) X k) (hn:n=(an 10000 X).length) (hz:z=sg b X) (hc:c=(b && decide (0<n))):af w (.agg #[.slice p n cap,.bool c]) z k:=by
 subst hn hz hc
 refine ⟨p,cap,?_,?_⟩
 ·rw [oh,eK,mN _ _]
 ·rw [eK];exact h
theorem af.flag  (h:af w (.agg #[.slice p n c,.bool b]) z k):b=decide (z<0)∧n=(an 10000 z.natAbs).length:=by
 obtain ⟨p',c',e,-⟩:=h
 simp only [Value.agg.injEq,Array.mk.injEq,List.cons.injEq,Value.bool.injEq,Value.slice.injEq,and_true] at e
 exact ⟨e.2,e.1.2.1⟩
def Cel (w:World) (blk off:Nat) (x:Int):Prop:=w.cell? ⟨blk,off,none⟩=some (.int .i64 x)
theorem Cel.kp {w':World}{blk off:Nat}{x:Int} (h:Cel w blk off x) (g:Kp w w'):Cel w' blk off x:=g.2 _ _ _ (by decide) h
theorem JY  (h:(an 10000 X).length=1):0<X∧X<10000:=by
 have h1:=jk (b:=10000) X
 rw [h] at h1
 refine ⟨?_,by omega⟩
 rcases Nat.eq_zero_or_pos X with rfl | h2
 ·have:=(fO (b:=10000) (n:=0)).2 rfl;omega
 ·exact h2
theorem af.one  (h:af w (.agg #[.slice p 1 c,.bool b]) z k):∃blk off,p=some ⟨blk,off,none⟩∧Cel w blk off (z.natAbs:Nat):=by
 obtain ⟨-,hn⟩:=h.flag
 obtain ⟨p',c',e,h2⟩:=h
 simp only [Value.agg.injEq,Array.mk.injEq,List.cons.injEq,Value.bool.injEq,Value.slice.injEq,and_true] at e
 obtain ⟨⟨rfl,-,rfl⟩,-⟩:=e
 obtain ⟨q,c2,e2,-,-,h3⟩:=h2.1
 simp only [Value.slice.injEq,true_and] at e2
 obtain ⟨rfl,rfl⟩:=e2
 have hx:=JY hn.symm
 rcases h3 with h3 | ⟨blk,off,rfl,-,h3⟩
 ·rw [h3] at hn;cases hn
 ·refine ⟨blk,off,rfl,?_⟩
  have:=h3 0 (by omega)
  rw [yy hx.1 hx.2] at this
  exact this
theorem yL (z:Int):(Rat.divInt z 1).num=z:=by rw [Rat.num_divInt];simp
theorem yM (z:Int):((Rat.divInt z 1).den:Int)=1:=by rw [Rat.den_divInt];simp
theorem tR  (h:0<y):dw z y=(Int.gcd z y:Int):=by rw [dw,if_neg (by omega)]
set_option maxHeartbeats 4000000 in
theorem adR {b':Bool}{q:Option Addr}{m cap' Y i:Nat} (hx:cF w (.slice p n cap) X i) (hy:cF w (.slice q m cap') Y j) (hi:i+j<=900000) (hY:0<Y) :
  Calls prog 45 #[.agg #[.slice p n cap,.bool b],.agg #[.slice q m cap',.bool b']] w (gR w (sg (b != b') (X / Y)) i):=by
 have Hx:=Lib.hid hx
 have Hy:=Lib.hid hy
 have S0:Kept w [(w.heap.size+1,0,(.slice q m cap')),(w.heap.size+1,1,(.bool b')),(w.heap.size,0,(.slice p n cap)),(w.heap.size,1,(.bool b))] [w.heap.size+1+1] (((w.alloc (.cells #[.slice p n cap,.bool b] 42)).alloc (.cells #[.slice q m cap',.bool b'] 42)).alloc (.cells #[.slice none 0 0,.bool false] 42)):=(((Kept.start w).box _ _ _ _ rfl).box _ _ _ _ (by simp)).res _ _ _ _ _ (by simp)
 clear hx hy
 go_enter func45,ntmps45
 go_wp2_with fail
 refine (Ds (Hx.out.grown (Kept.all _ _ S0)) (Hy.out.grown (Kept.all _ _ S0)) (by omega) hY).mono ?_
 rintro e w1 ⟨vq,vr,rfl,hq,hr,bq,br,hg⟩
 obtain ⟨pq,cq,rfl⟩:=hq.slice
 obtain ⟨pr,cr,rfl⟩:=hr.slice
 have Hq:=Lib.hid hq
 have Bq:=Lib.hid bq
 replace S0:=Kept.grown _ _ S0 hg
 have s2:=S0.lt (g:=w.heap.size+1+1) (by simp)
 clear hg hq hr bq br
 obtain ⟨l,hl⟩:∃l,(an 10000 (X / Y)).length=l:=⟨_,rfl⟩
 rw [hl] at Hq
 rw [hl]
 have Hl:=Lib.hid hl
 clear hl
 obtain ⟨c0,c1,c2,c3,r0,r1,f0,f1,G⟩:=id S0
 go_wp2_with fail
 refine (iP _ _ _ _ _).mono ?_
 rintro e w2 ⟨rfl,hg⟩
 replace S0:=Kept.grown _ _ S0 hg
 replace Hq:=Lib.hid (Hq.out.grown hg (.inl rfl))
 clear hg c0 c1 c2 c3 r0 r1 f0 f1 G
 obtain ⟨c0,c1,c2,c3,r0,r1,f0,f1,G⟩:=id S0
 go_wp2_with fail
 have G2:=Kept.all _ _ (Kept.set (g:=w.heap.size+1+1) (u:=.slice pq l cq) (v:=.bool ((b != b') && decide (0<l))) _ _ (by simp <;> omega) (by omega) S0)
 refine acZ results45 rfl rfl (dP r0) (dQ r1) (gR.mk (adQ (b != b') (X:=X / Y) ?_ Hl.out.symm rfl rfl) G2)
 exact ⟨(Hq.out.grown (iD _ _ _ _) (own_ne Hq.out (by first | omega | (simp <;> omega)))).sl,Bq.out⟩
set_option maxHeartbeats 4000000 in
theorem adS {v u:Value}{t:Int}{i:Nat} (hx:af w v z i) (hy:af w u y j) (hi:i+j<=900000) (h0:y≠0) (hd:y∣z) (ht:z / y=t) :
  Calls prog 45 #[v,u] w (gR w t i):=by
 subst ht
 obtain ⟨b,p,n,cap,X,rfl,dx,rfl⟩:=hx.open
 obtain ⟨b',q,m,cap',Y,rfl,dy,rfl⟩:=hy.open
 have hY:Y≠0:=by rintro rfl;exact h0 (by cases b' <;> rfl)
 have hR:X % Y=0:=by
  have:=Int.natAbs_dvd_natAbs.2 hd
  rw [eK,eK] at this
  exact Nat.mod_eq_zero_of_dvd this
 rw [(wq (b:=b) (b':=b') hY (.inr hR)).1]
 exact adR dx dy hi (Nat.pos_of_ne_zero hY)
end Go.Proofs.YtomamliepbhegaaGreat
namespace Go.Proofs.YtomamliepbhegaaGreat.Sym
open Go.Proofs.Tryz
open Go.RowKit
variable {w:World}{v:Value}{y:Int}{b:Bool}
def dm (y:Int) (i:Nat) (_:World) (v:Value):Prop:=v = .agg #[.int .i64 ((nth (an 10000 y.natAbs) i:Nat):Int)]
theorem af.arr {k n:Nat} (h:af w v y k) (h0:y≠0) (hl:(an 10000 y.natAbs).length=n):Arr 1 (dm y) n w (bw 0 1 v):=by
 subst hl
 obtain ⟨p,c,rfl,h2⟩:=h
 obtain ⟨q,c2,e2,-,-,h3⟩:=h2.1
 simp only [Value.slice.injEq,true_and] at e2
 obtain ⟨rfl,rfl⟩:=e2
 rcases h3 with h3 | ⟨b,off,rfl,-,h3⟩
 ·have:=(fO (b:=10000) (n:=y.natAbs)).1 (by rw [h3];rfl)
  omega
 ·refine ⟨_,_,rfl,fun i hi=>⟨b,off,rfl,[.int .i64 ((nth (an 10000 y.natAbs) i:Nat):Int)],rfl,fun j u hj=>?_,rfl⟩⟩
  have h4:=h3 i hi
  match j,hj with
  | 0,hj=>
   simp only [List.getElem?_cons_zero,Option.some.injEq] at hj
   subst hj
   rw [Nat.mul_one,Nat.add_zero]
   exact h4
theorem af.isA {k:Nat} (h:af w v y k) (hb:decide (y<0)=b):(bK.agg [.s,.lit (.cb b)]).is v:=by
 obtain ⟨p,c,rfl,-⟩:=h
 exact ⟨_,rfl,⟨_,_,_,rfl⟩,by rw [hb];rfl,trivial⟩
section
variable {P:Program}{Φ:PH}{X:Nat->Prop}{p q x x2 i j n:Nat}{z t:Int}{w':World}{e:Ending}
theorem adT {sh:bK}{u:Value}{G:WP} (hs:sh.is u) (hx:Φ x=G) (h:∀w1,Off X w w1->G w1 u):bp Φ X w [⟨sh,[(0,0,x)]⟩] [u]:=⟨⟨hs,fun r hr w1 hw=>by
 simp only [List.mem_singleton] at hr;subst hr
 show Φ x w1 _;rw [hx];exact h w1 hw⟩,trivial⟩
theorem rg {T:TypeId} (hp:∀w v,Φ p w v->Ptr 1 (dm y 0) w v) (hx:Φ x=Ni ((nth (an 10000 y.natAbs) 0:Nat):Int)) (hT:ia P T=some false:=by kernel_rfl):aj Φ P ⟨0,[.fact p],[oN x],.quiet (aI T)⟩:=fun X w ac o xs _ hm ha=>by
 unfold aI at hm
 split at hm
 case h_2=>cases hm
 rename_i t y ho
 split at hm
 case isFalse=>cases hm
 rename_i ht
 subst ht
 simp only [Option.some.injEq] at hm
 subst hm
 obtain ⟨b,off,hv,l,h1,h2,h3⟩:=hp _ _ (ha.1 w (Off.refl _ _))
 have h3:Value.agg l.toArray = .agg #[.int .i64 _]:=h3
 obtain rfl:l = [.int .i64 _]:=by simpa using h3
 have hc:=h2 0 _ rfl
 refine ⟨.int .i64 _,w,?_,bh w none,adT ⟨⟨_,rfl⟩,fun _ h=>by cases h⟩ hx fun _ _=>rfl⟩
 rw [Nat.add_zero] at hc
 unfold execOp
 simp [ho,hv,Instr.loadAt,Instr.sureAddr,loadVar,ib hT,hc]
theorem JZ (hx:Φ x=fun w v=>af w v t i) (hx2:Φ x2=Arr 1 (dm t) n) (h0:0<t) (hl:(an 10000 t.natAbs).length=n) (h:gR w t i e w'):post Φ X [⟨.agg [.s,.lit (.cb false)],[(0,0,x),(0,1,x2)]⟩] false w e w':=by
 obtain ⟨s,m,c,b,rfl,h1,h2⟩:=h
 obtain rfl:b=false:=h1.flag.1.trans (decide_eq_false (by omega))
 refine ⟨h2,[_],rfl,⟨⟨_,rfl,⟨_,_,_,rfl⟩,rfl,trivial⟩,fun q hq w1 hw=>?_⟩,trivial⟩
 have h':=af.kp h1 hw.1
 simp only [List.mem_cons,List.not_mem_nil,or_false] at hq
 rcases hq with rfl | rfl
 ·show Φ x w1 _;rw [hx];exact h'
 ·show Φ x2 w1 _;rw [hx2];exact af.arr h' (by omega) hl
theorem yN (hp:∀w v,Φ p w v->af w v z i) (hx:Φ x=fun w v=>af w v (-z) i) (hx2:Φ x2=Arr 1 (dm (-z)) n) (h0:z<0) (hl:(an 10000 (-z).natAbs).length=n):aj Φ prog ⟨59,[.fact p],[⟨.agg [.s,.lit (.cb false)],[(0,0,x),(0,1,x2)]⟩],false⟩:=
 fW fun _ _ _ h1=>(JG (hp _ _ (get h1)) rfl).mono fun _ _ h=>JZ hx hx2 (by omega) hl h
theorem adU (hx:Φ x=fun w v=>af w v 1 2) (hx2:Φ x2=Arr 1 (dm 1) 1):aj Φ prog ⟨40,[.lit (.ci .i64 1)],[⟨.agg [.s,.lit (.cb false)],[(0,0,x),(0,1,x2)]⟩],false⟩:=
 fW fun _ _ v h1=>by
  obtain rfl:v = .int .i64 1:=h1
  exact (yG 1 (by decide) (by decide) rfl).mono fun _ _ h=>JZ hx hx2 (by decide) (by decide +kernel) h
theorem iG (hp:∀w v,Φ p w v->af w v z i) (hq:∀w v,Φ q w v->af w v y j) (hx:Φ x=fun w v=>af w v t i) (h0':y≠0) (h1':y∣z) (ht:z / y=t) (hi:i+j<=900000:=by omega):aj Φ prog ⟨45,[.fact p,.fact q],[⟨dS,[(0,0,x)]⟩],false⟩:=
 fk fun _ _ _ _ h0 h1=>(adS (hp _ _ (get h0)) (hq _ _ (get h1)) hi h0' h1' ht).mono fun _ _ h=>mm hx h
theorem yO {p1 p2:Nat} (h:∀w v,sS.is v->Φ p1 w (bw 0 2 v)->Φ p2 w (bw 2 2 v)->Φ x w v) (X:Nat->Prop) (w:World) (v:Value) (hv:(bK.agg [.s,.b,.s,.lit (.cb b)]).is v∧∀q,q ∈ [(0,2,p1),(2,2,p2)]->∀w1,Off X w w1->Φ q.2.2 w1 (bw q.1 q.2.1 v)):sS.is v∧∀q,q ∈ [(0,0,x)]->∀w1,Off X w w1->Φ q.2.2 w1 (bw q.1 q.2.1 v):=by
 have hs:sS.is v:=by
  obtain ⟨vs,rfl,h⟩:=hv.1
  match vs,h with
  | [v0,v1,v2,v3],h=>
   obtain ⟨h0,h1,h2,h3,_⟩:=h
   exact ⟨_,rfl,h0,h1,h2,⟨_,h3⟩,trivial⟩
 exact ⟨hs,fun q hq w1 hw=>by
  simp only [List.mem_singleton] at hq
  subst hq
  exact h w1 _ hs (hv.2 (0,2,p1) (by simp) w1 hw) (hv.2 (2,2,p2) (by simp) w1 hw)⟩
theorem adV {m:Nat} (hl:(an 10000 m).length=1):nth (an 10000 m) 0=m:=by
 have h:=JY hl
 rw [yy h.1 h.2];rfl
theorem Ka (h0:y=0):aR z y=Rat.divInt z 1:=by rw [aR,if_pos h0]
theorem tT (h0:y<0):aR z y=Rat.divInt (-z) (-y):=by rw [kZ (by omega),Rat.neg_divInt_neg]
theorem adW (h0:y=0):z=(aR z y).num:=by rw [Ka h0,yL]
theorem adX (h0:y=0):(1:Int)=((aR z y).den:Int):=by rw [Ka h0,yM]
theorem tU (h0:0<y) (hl:(an 10000 y.natAbs).length=1) (hd:nth (an 10000 y.natAbs) 0=1):y=1:=by
 rw [adV hl] at hd;omega
theorem adY (h0:0<y) (hl:(an 10000 y.natAbs).length=1) (hd:nth (an 10000 y.natAbs) 0=1):z=(aR z y).num:=by
 rw [tU h0 hl hd,kZ (by decide),yL]
theorem adZ (h0:0<y) (hl:(an 10000 y.natAbs).length=1) (hd:nth (an 10000 y.natAbs) 0=1):y=((aR z y).den:Int):=by
 rw [tU h0 hl hd,kZ (by decide),yM]
theorem ad0 (h0:y<0) (hl:(an 10000 (-y).natAbs).length=1) (hd:nth (an 10000 (-y).natAbs) 0=1) : -z=(aR z y).num:=by
 rw [tT h0,tU (by omega) hl hd,yL]
theorem ad1 (h0:y<0) (hl:(an 10000 (-y).natAbs).length=1) (hd:nth (an 10000 (-y).natAbs) 0=1) : -y=((aR z y).den:Int):=by
 rw [tT h0,tU (by omega) hl hd,yM]
theorem Kb (h0:0<y):z / dw z y=(aR z y).num:=by rw [kZ (by omega)];exact Jf
theorem Kc (h0:0<y):y / dw z y=((aR z y).den:Int):=by rw [kZ (by omega)];exact Jg
theorem Kd (h0:y<0) : -z / dw (-z) (-y)=(aR z y).num:=by rw [tT h0];exact Jf
theorem Ke (h0:y<0) : -y / dw (-z) (-y)=((aR z y).den:Int):=by rw [tT h0];exact Jg
def ad2 (z y:Int) (t:Rat) (i j:Nat):List WP:=[fun w v=>af w v z i,fun w v=>af w v y j,fun w v=>af w v 1 2,Arr 1 (dm (1:Int)) 1,Ptr 1 ((dm (1:Int)) 0),Ni ((nth (an 10000 (1:Int).natAbs) 0:Nat):Int),Dw t (i+j+2)]
def ad3:List Out:=[oD 0,oD 1]
def ad4:List Step:=[.base ⟨57,[1],oT,false⟩,.base ⟨40,[.lit (.ci .i64 1)],[⟨.agg [.s,.lit (.cb false)],[(0,0,2),(0,1,3)]⟩],false⟩,bQ [3] [oL (.ci .i64 1)] (aC 40),bQ [3,.lit (.ci .i64 0)] [oP 4] (aH 40),bQ [4] [oN 5] (aI 3),bQ [5,.lit (.ci .i64 1)] oT (ak .eql)]
theorem ad5 {t:Rat}{i:Nat} (_hk:i+j<=200000) (h0:y=0) (ht:aR z y=t):aj (ph (ad2 z y t i j)) prog ⟨38,[0,1],[⟨sS,[(0,0,6)]⟩],false⟩:=aV ad3 [⟨.agg [.s,.b,.s,.lit (.cb false)],[(0,2,0),(2,2,2)]⟩] ad4 func38 (by kernel_rfl) (lB (kj dD (decide_eq_true h0)) (lB (adU rfl rfl) (lB (rh (n:=1) (sz:=1) (F:=(dm (1:Int))) rfl underlying40 ad) (lB (ri (n:=1) (sz:=1) 0 (F:=(dm (1:Int))) underlying40 ad rfl rfl) (lB (rg ad rfl) (lB (dp (op:=.eql) ad (fun t w=>by rw [<- show decide (((nth (an 10000 (1:Int).natAbs) 0:Nat):Int)=1)=true from (by decide +kernel)];rfl)) au))))))
  (aK [.fact 0 (.agg [.s,.b]),.fact 1 (.agg [.s,.b])] ⟨fun _ _ h=>af.is h,fun _ _ h=>af.is h,trivial⟩) (jt (yO fun _ _ hs h1 h2=>al.join hs (af.more (af.fl h1 (by rw [<- ht];exact adW h0)) (by omega)) (af.more (af.fl h2 (by rw [<- ht];exact adX h0)) (by omega))))
def ad6 (z y:Int) (t:Rat) (i j:Nat):List WP:=[fun w v=>af w v z i,fun w v=>af w v y j,Arr 1 (dm y) 1,Ptr 1 ((dm y) 0),Ni ((nth (an 10000 y.natAbs) 0:Nat):Int),Dw t (i+j+2)]
def ad7:List Out:=[oD 0,⟨.agg [.s,.lit (.cb false)],[(0,0,1),(0,1,2)]⟩]
def ad8:List Step:=[.base ⟨57,[1],oF,false⟩,bQ [2] [oL (.ci .i64 1)] (aC 40),bQ [2,.lit (.ci .i64 0)] [oP 3] (aH 40),bQ [3] [oN 4] (aI 3),bQ [4,.lit (.ci .i64 1)] oT (ak .eql)]
theorem ad9 {t:Rat}{i:Nat} (_hk:i+j<=200000) (h0:0<y) (ht:aR z y=t) (hl:(an 10000 y.natAbs).length=1) (hd:nth (an 10000 y.natAbs) 0=1):aj (ph (ad6 z y t i j)) prog ⟨38,[0,1],[⟨sS,[(0,0,5)]⟩],false⟩:=by
 have hp:0<y:=h0
 exact aV ad7 [⟨.agg [.s,.b,.s,.lit (.cb false)],[(0,2,0),(2,2,1)]⟩] ad8 func38 (by kernel_rfl) (lB (kj dD (decide_eq_false (by omega))) (lB (rh (n:=1) (sz:=1) (F:=(dm y)) rfl underlying40 ad) (lB (ri (n:=1) (sz:=1) 0 (F:=(dm y)) underlying40 ad rfl rfl) (lB (rg ad rfl) (lB (dp (op:=.eql) ad (fun t w=>by rw [<- show decide (((nth (an 10000 y.natAbs) 0:Nat):Int)=1)=true from decide_eq_true (by rw [hd];rfl)];rfl)) au)))))
  (aK [.fact 0 (.agg [.s,.b]),.sub 1 (.agg [.s,.lit (.cb false)]) [(0,1,2)]] ⟨fun _ _ h=>af.is h,⟨fun _ _ h=>af.isA h (decide_eq_false (by omega)),fun _ _ h=>af.arr h (by omega) hl,trivial⟩,trivial⟩) (jt (yO fun _ _ hs h1 h2=>al.join hs (af.more (af.fl h1 (by rw [<- ht];exact adY h0 hl hd)) (by omega)) (af.more (af.fl h2 (by rw [<- ht];exact adZ h0 hl hd)) (by omega))))
def aea (z y:Int) (t:Rat) (i j:Nat):List WP:=[fun w v=>af w v z i,fun w v=>af w v y j,Arr 1 (dm y) 1,Ptr 1 ((dm y) 0),Ni ((nth (an 10000 y.natAbs) 0:Nat):Int),fun w v=>af w v (dw z y) (i+j),fun w v=>af w v (z / (dw z y)) i,fun w v=>af w v (y / (dw z y)) j,Dw t (i+j+2)]
def aeb:List Out:=[oD 0,⟨.agg [.s,.lit (.cb false)],[(0,0,1),(0,1,2)]⟩]
def aec:List Step:=[.base ⟨57,[1],oF,false⟩,bQ [2] [oL (.ci .i64 1)] (aC 40),bQ [2,.lit (.ci .i64 0)] [oP 3] (aH 40),bQ [3] [oN 4] (aI 3),bQ [4,.lit (.ci .i64 1)] oF (ak .eql),.base ⟨47,[0,1],[oD 5],false⟩,.base ⟨45,[0,5],[oD 6],false⟩,.base ⟨45,[1,5],[oD 7],false⟩]
theorem aed {t:Rat}{i:Nat} (hk:i+j<=200000) (h0:0<y) (ht:aR z y=t) (hl:(an 10000 y.natAbs).length=1) (h1:nth (an 10000 y.natAbs) 0≠1):aj (ph (aea z y t i j)) prog ⟨38,[0,1],[⟨sS,[(0,0,8)]⟩],false⟩:=by
 have hp:0<y:=h0
 exact aV aeb [⟨.agg [.s,.b,.s,.b],[(0,2,6),(2,2,7)]⟩] aec func38 (by kernel_rfl) (lB (kj dD (decide_eq_false (by omega))) (lB (rh (n:=1) (sz:=1) (F:=(dm y)) rfl underlying40 ad) (lB (ri (n:=1) (sz:=1) 0 (F:=(dm y)) underlying40 ad rfl rfl) (lB (rg ad rfl) (lB (dp (op:=.eql) ad (fun t w=>by rw [<- show decide (((nth (an 10000 y.natAbs) 0:Nat):Int)=1)=false from decide_eq_false (by omega)];rfl)) (lB (lH (i+j) dD dD rfl (tR hp).symm) (lB (iG dD dD rfl (mj) (tK _ _) rfl) (lB (iG dD dD rfl (mj) (tL _ _) rfl) au))))))))
  (aK [.fact 0 (.agg [.s,.b]),.sub 1 (.agg [.s,.lit (.cb false)]) [(0,1,2)]] ⟨fun _ _ h=>af.is h,⟨fun _ _ h=>af.isA h (decide_eq_false (by omega)),fun _ _ h=>af.arr h (by omega) hl,trivial⟩,trivial⟩) (jt (halves fun _ _ hs h1 h2=>al.join hs (af.more (af.fl h1 (by rw [<- ht];exact Kb h0)) (by omega)) (af.more (af.fl h2 (by rw [<- ht];exact Kc h0)) (by omega))))
def aee (z y:Int) (t:Rat) (i j n:Nat):List WP:=[fun w v=>af w v z i,fun w v=>af w v y j,Arr 1 (dm y) n,Nz n,fun w v=>af w v (dw z y) (i+j),fun w v=>af w v (z / (dw z y)) i,fun w v=>af w v (y / (dw z y)) j,Dw t (i+j+2)]
def aef:List Out:=[oD 0,⟨.agg [.s,.lit (.cb false)],[(0,0,1),(0,1,2)]⟩]
def aeg:List Step:=[.base ⟨57,[1],oF,false⟩,bQ [2] [oN 3] (aC 40),bQ [3,.lit (.ci .i64 1)] oF (ak .eql),.base ⟨47,[0,1],[oD 4],false⟩,.base ⟨45,[0,4],[oD 5],false⟩,.base ⟨45,[1,4],[oD 6],false⟩]
theorem aeh {t:Rat}{i:Nat} (hk:i+j<=200000) (h0:0<y) (ht:aR z y=t) (hl:(an 10000 y.natAbs).length=n) (hl1:n≠1)  : aj (ph (aee z y t i j n)) prog ⟨38,[0,1],[⟨sS,[(0,0,7)]⟩],false⟩:=by
 have hp:0<y:=h0
 exact aV aef [⟨.agg [.s,.b,.s,.b],[(0,2,5),(2,2,6)]⟩] aeg func38 (by kernel_rfl) (lB (kj dD (decide_eq_false (by omega))) (lB (gJ (sz:=1) (n:=n) (F:=(dm y)) underlying40 ad rfl) (lB (dp (op:=.eql) ad (fun t w=>by rw [<- show decide (((n:Nat):Int)=1)=false from decide_eq_false (by omega)];rfl)) (lB (lH (i+j) dD dD rfl (tR hp).symm) (lB (iG dD dD rfl (mj) (tK _ _) rfl) (lB (iG dD dD rfl (mj) (tL _ _) rfl) au))))))
  (aK [.fact 0 (.agg [.s,.b]),.sub 1 (.agg [.s,.lit (.cb false)]) [(0,1,2)]] ⟨fun _ _ h=>af.is h,⟨fun _ _ h=>af.isA h (decide_eq_false (by omega)),fun _ _ h=>af.arr h (by omega) hl,trivial⟩,trivial⟩) (jt (halves fun _ _ hs h1 h2=>al.join hs (af.more (af.fl h1 (by rw [<- ht];exact Kb h0)) (by omega)) (af.more (af.fl h2 (by rw [<- ht];exact Kc h0)) (by omega))))
def aei (z y:Int) (t:Rat) (i j:Nat):List WP:=[fun w v=>af w v z i,fun w v=>af w v y j,fun w v=>af w v (-z) i,fun w v=>af w v (-y) j,Arr 1 (dm (-y)) 1,Ptr 1 ((dm (-y)) 0),Ni ((nth (an 10000 (-y).natAbs) 0:Nat):Int),Dw t (i+j+2)]
def aej:List Out:=[oD 0,⟨.agg [.s,.lit (.cb true)],[(0,0,1)]⟩]
def aek:List Step:=[.base ⟨57,[1],oF,false⟩,.base ⟨59,[0],[oD 2],false⟩,.base ⟨59,[1],[⟨.agg [.s,.lit (.cb false)],[(0,0,3),(0,1,4)]⟩],false⟩,bQ [4] [oL (.ci .i64 1)] (aC 40),bQ [4,.lit (.ci .i64 0)] [oP 5] (aH 40),bQ [5] [oN 6] (aI 3),bQ [6,.lit (.ci .i64 1)] oT (ak .eql)]
theorem ael {t:Rat}{i:Nat} (_hk:i+j<=200000) (h0:y<0) (ht:aR z y=t) (hl:(an 10000 (-y).natAbs).length=1) (hd:nth (an 10000 (-y).natAbs) 0=1):aj (ph (aei z y t i j)) prog ⟨38,[0,1],[⟨sS,[(0,0,7)]⟩],false⟩:=by
 have hp:0 < -y:=by omega
 exact aV aej [⟨.agg [.s,.b,.s,.lit (.cb false)],[(0,2,2),(2,2,3)]⟩] aek func38 (by kernel_rfl) (lB (kj dD (decide_eq_false (by omega))) (lB (qW dD rfl rfl) (lB (yN dD rfl rfl h0 hl) (lB (rh (n:=1) (sz:=1) (F:=(dm (-y))) rfl underlying40 ad) (lB (ri (n:=1) (sz:=1) 0 (F:=(dm (-y))) underlying40 ad rfl rfl) (lB (rg ad rfl) (lB (dp (op:=.eql) ad (fun t w=>by rw [<- show decide (((nth (an 10000 (-y).natAbs) 0:Nat):Int)=1)=true from decide_eq_true (by rw [hd];rfl)];rfl)) au)))))))
  (aK [.fact 0 (.agg [.s,.b]),.fact 1 (.agg [.s,.lit (.cb true)])] ⟨fun _ _ h=>af.is h,fun _ _ h=>af.isA h (decide_eq_true (by omega)),trivial⟩) (jt (yO fun _ _ hs h1 h2=>al.join hs (af.more (af.fl h1 (by rw [<- ht];exact ad0 h0 hl hd)) (by omega)) (af.more (af.fl h2 (by rw [<- ht];exact ad1 h0 hl hd)) (by omega))))
def aem (z y:Int) (t:Rat) (i j:Nat):List WP:=[fun w v=>af w v z i,fun w v=>af w v y j,fun w v=>af w v (-z) i,fun w v=>af w v (-y) j,Arr 1 (dm (-y)) 1,Ptr 1 ((dm (-y)) 0),Ni ((nth (an 10000 (-y).natAbs) 0:Nat):Int),fun w v=>af w v (dw (-z) (-y)) (i+j),fun w v=>af w v ((-z) / (dw (-z) (-y))) i,fun w v=>af w v ((-y) / (dw (-z) (-y))) j,Dw t (i+j+2)]
def aen:List Out:=[oD 0,⟨.agg [.s,.lit (.cb true)],[(0,0,1)]⟩]
def aeo:List Step:=[.base ⟨57,[1],oF,false⟩,.base ⟨59,[0],[oD 2],false⟩,.base ⟨59,[1],[⟨.agg [.s,.lit (.cb false)],[(0,0,3),(0,1,4)]⟩],false⟩,bQ [4] [oL (.ci .i64 1)] (aC 40),bQ [4,.lit (.ci .i64 0)] [oP 5] (aH 40),bQ [5] [oN 6] (aI 3),bQ [6,.lit (.ci .i64 1)] oF (ak .eql),.base ⟨47,[2,3],[oD 7],false⟩,.base ⟨45,[2,7],[oD 8],false⟩,.base ⟨45,[3,7],[oD 9],false⟩]
theorem aep {t:Rat}{i:Nat} (hk:i+j<=200000) (h0:y<0) (ht:aR z y=t) (hl:(an 10000 (-y).natAbs).length=1) (h1:nth (an 10000 (-y).natAbs) 0≠1):aj (ph (aem z y t i j)) prog ⟨38,[0,1],[⟨sS,[(0,0,10)]⟩],false⟩:=by
 have hp:0 < -y:=by omega
 exact aV aen [⟨.agg [.s,.b,.s,.b],[(0,2,8),(2,2,9)]⟩] aeo func38 (by kernel_rfl) (lB (kj dD (decide_eq_false (by omega))) (lB (qW dD rfl rfl) (lB (yN dD rfl rfl h0 hl) (lB (rh (n:=1) (sz:=1) (F:=(dm (-y))) rfl underlying40 ad) (lB (ri (n:=1) (sz:=1) 0 (F:=(dm (-y))) underlying40 ad rfl rfl) (lB (rg ad rfl) (lB (dp (op:=.eql) ad (fun t w=>by rw [<- show decide (((nth (an 10000 (-y).natAbs) 0:Nat):Int)=1)=false from decide_eq_false (by omega)];rfl)) (lB (lH (i+j) dD dD rfl (tR hp).symm) (lB (iG dD dD rfl (mj) (tK _ _) rfl) (lB (iG dD dD rfl (mj) (tL _ _) rfl) au))))))))))
  (aK [.fact 0 (.agg [.s,.b]),.fact 1 (.agg [.s,.lit (.cb true)])] ⟨fun _ _ h=>af.is h,fun _ _ h=>af.isA h (decide_eq_true (by omega)),trivial⟩) (jt (halves fun _ _ hs h1 h2=>al.join hs (af.more (af.fl h1 (by rw [<- ht];exact Kd h0)) (by omega)) (af.more (af.fl h2 (by rw [<- ht];exact Ke h0)) (by omega))))
def aeq (z y:Int) (t:Rat) (i j n:Nat):List WP:=[fun w v=>af w v z i,fun w v=>af w v y j,fun w v=>af w v (-z) i,fun w v=>af w v (-y) j,Arr 1 (dm (-y)) n,Nz n,fun w v=>af w v (dw (-z) (-y)) (i+j),fun w v=>af w v ((-z) / (dw (-z) (-y))) i,fun w v=>af w v ((-y) / (dw (-z) (-y))) j,Dw t (i+j+2)]
def aer:List Out:=[oD 0,⟨.agg [.s,.lit (.cb true)],[(0,0,1)]⟩]
def aes:List Step:=[.base ⟨57,[1],oF,false⟩,.base ⟨59,[0],[oD 2],false⟩,.base ⟨59,[1],[⟨.agg [.s,.lit (.cb false)],[(0,0,3),(0,1,4)]⟩],false⟩,bQ [4] [oN 5] (aC 40),bQ [5,.lit (.ci .i64 1)] oF (ak .eql),.base ⟨47,[2,3],[oD 6],false⟩,.base ⟨45,[2,6],[oD 7],false⟩,.base ⟨45,[3,6],[oD 8],false⟩]
theorem aet {t:Rat}{i:Nat} (hk:i+j<=200000) (h0:y<0) (ht:aR z y=t) (hl:(an 10000 (-y).natAbs).length=n) (hl1:n≠1)  : aj (ph (aeq z y t i j n)) prog ⟨38,[0,1],[⟨sS,[(0,0,9)]⟩],false⟩:=by
 have hp:0 < -y:=by omega
 exact aV aer [⟨.agg [.s,.b,.s,.b],[(0,2,7),(2,2,8)]⟩] aes func38 (by kernel_rfl) (lB (kj dD (decide_eq_false (by omega))) (lB (qW dD rfl rfl) (lB (yN dD rfl rfl h0 hl) (lB (gJ (sz:=1) (n:=n) (F:=(dm (-y))) underlying40 ad rfl) (lB (dp (op:=.eql) ad (fun t w=>by rw [<- show decide (((n:Nat):Int)=1)=false from decide_eq_false (by omega)];rfl)) (lB (lH (i+j) dD dD rfl (tR hp).symm) (lB (iG dD dD rfl (mj) (tK _ _) rfl) (lB (iG dD dD rfl (mj) (tL _ _) rfl) au))))))))
  (aK [.fact 0 (.agg [.s,.b]),.fact 1 (.agg [.s,.lit (.cb true)])] ⟨fun _ _ h=>af.is h,fun _ _ h=>af.isA h (decide_eq_true (by omega)),trivial⟩) (jt (halves fun _ _ hs h1 h2=>al.join hs (af.more (af.fl h1 (by rw [<- ht];exact Kd h0)) (by omega)) (af.more (af.fl h2 (by rw [<- ht];exact Ke h0)) (by omega))))
end
end Go.Proofs.YtomamliepbhegaaGreat.Sym
namespace Go.Proofs.YtomamliepbhegaaGreat
open Go.Proofs.Tryz
variable {u v:Value}{y z:Int}{j:Nat}{w:World}
theorem Sym.nn {Φ:PH}{i:Nat} (h0:Φ 0=fun w v=>af w v z i) (h1:Φ 1=fun w v=>af w v y j) (hx:af w v z i) (hy:af w u y j):Sym.cH Φ (fun _=>False) w [0,1] [v,u]:=
 ⟨Sym.ld h0 (fun _ _ _ g h=>af.kp h g) hx,Sym.ld h1 (fun _ _ _ g h=>af.kp h g) hy,trivial⟩
theorem aeu {t:Rat}{i:Nat} (hx:af w v z i) (hy:af w u y j) (hk:i+j<=200000) (ht:aR z y=t):Calls prog 38 #[v,u] w (jr w t (i+j+2)):=by
 rcases Int.lt_trichotomy y 0 with h | h | h
 ·by_cases hl:(an 10000 (-y).natAbs).length=1
  ·by_cases hd:nth (an 10000 (-y).natAbs) 0=1
   ·exact Sym.iR (Sym.ael hk h ht hl hd) rfl (vs:=[v,u]) (Sym.nn rfl rfl hx hy)
   ·exact Sym.iR (Sym.aep hk h ht hl hd) rfl (vs:=[v,u]) (Sym.nn rfl rfl hx hy)
  ·exact Sym.iR (Sym.aet hk h ht rfl hl) rfl (vs:=[v,u]) (Sym.nn rfl rfl hx hy)
 ·exact Sym.iR (Sym.ad5 hk h ht) rfl (vs:=[v,u]) (Sym.nn rfl rfl hx hy)
 ·by_cases hl:(an 10000 y.natAbs).length=1
  ·by_cases hd:nth (an 10000 y.natAbs) 0=1
   ·exact Sym.iR (Sym.ad9 hk h ht hl hd) rfl (vs:=[v,u]) (Sym.nn rfl rfl hx hy)
   ·exact Sym.iR (Sym.aed hk h ht hl hd) rfl (vs:=[v,u]) (Sym.nn rfl rfl hx hy)
  ·exact Sym.iR (Sym.aeh hk h ht rfl hl) rfl (vs:=[v,u]) (Sym.nn rfl rfl hx hy)
end Go.Proofs.YtomamliepbhegaaGreat
namespace Go.Proofs.YtomamliepbhegaaGreat.Sym
open Go.Proofs.Tryz
open Go.RowKit
variable {q r t:Rat}{j k p x x' x1 x2:Nat}{y z:Int}{w:World}{u v:Value}{xs ys:List Nat}{b b':Bool}
section
variable {Φ:PH}
theorem aev (q:Rat):(q.den:Int)≠0:=by have:=q.den_nz;omega
theorem _root_.Go.Proofs.YtomamliepbhegaaGreat.no (q:Rat):(q.den:Int)≠0:=aev q
theorem _root_.Go.Proofs.YtomamliepbhegaaGreat.aew (q r:Rat):aR (q.num*r.den+r.num*q.den) (q.den*r.den)=q+r:=by
 rw [kZ (Int.mul_ne_zero (no q) (no r)),<- Rat.divInt_add_divInt _ _ (no q) (no r),Rat.num_divInt_den,Rat.num_divInt_den]
theorem _root_.Go.Proofs.YtomamliepbhegaaGreat.aex (q r:Rat):aR (q.num*r.num) (q.den*r.den)=q*r:=by
 rw [kZ (Int.mul_ne_zero (no q) (no r)),<- Rat.divInt_mul_divInt,Rat.num_divInt_den,Rat.num_divInt_den]
theorem _root_.Go.Proofs.YtomamliepbhegaaGreat.aey (q:Rat) (h:r≠0):aR (q.num*r.den) (q.den*r.num)=q / r:=by
 have hr:r.num≠0:=fun e=>h (Rat.num_eq_zero.1 e)
 rw [kZ (Int.mul_ne_zero (no q) hr),<- abQ,Rat.num_divInt_den,Rat.num_divInt_den]
theorem kH {q i:Nat} (hp:∀w v,Φ p w v->af w v z i) (hq:∀w v,Φ q w v->af w v y j) (hx:Φ x=Dw t (i+j+2)) (hx1:Φ x1=fun w v=>af w v t.num (i+j+2)) (hx2:Φ x2=fun w v=>af w v (t.den:Int) (i+j+2)) (ht:aR z y=t) (hk:i+j<=200000:=by omega):aj Φ prog ⟨38,[.fact p,.fact q],[⟨sS,[(0,0,x),(0,2,x1),(2,2,x2)]⟩],false⟩:=
 fk fun _ _ _ _ h0 h1=>(aeu (hp _ _ (get h0)) (hq _ _ (get h1)) hk ht).mono fun _ _ h=>ng hx hx1 hx2 h
theorem Kf {t z:Int} (hp:∀w v,Φ p w v->v = .int .i64 z) (hx:Φ x=fun w v=>af w v t 2) (h1 : -9223372036854775808<=z) (h2:z<=9223372036854775807) (ht:z=t):aj Φ prog ⟨40,[.fact p],[⟨dS,[(0,0,x)]⟩],false⟩:=
 fW fun _ w v h0=>by
  obtain rfl:=hp _ _ (get h0)
  exact (yG z h1 h2 ht).mono fun _ _ h=>mm hx h
def aez (x y:Int) (t:Rat):List WP:=[Ni x,Ni y,fun w v=>af w v x 2,fun w v=>af w v y 2,Dw t (2+2+2),fun w v=>af w v t.num (2+2+2),fun w v=>af w v (t.den:Int) (2+2+2)]
def aeA:List Out:=[oN 0,oN 1]
def aeB:List Step:=[.base ⟨40,[0],[oD 2],false⟩,.base ⟨40,[1],[oD 3],false⟩,.base ⟨38,[2,3],[⟨.agg [.s,.b,.s,.b],[(0,0,4),(0,2,5),(2,2,6)]⟩],false⟩]
theorem ofr {x:Int} (x1 : -9223372036854775808<=x) (x2:x<=9223372036854775807) (y1 : -9223372036854775808<=y) (y2:y<=9223372036854775807) (ht:aR x y=t):aj (ph (aez x y t)) prog ⟨50,[0,1],[oQ 4],false⟩:=
 aV aeA [oQ 4] aeB func50 (by kernel_rfl) (lB (Kf ad rfl x1 x2 rfl) (lB (Kf ad rfl y1 y2 rfl) (lB (kH dD dD rfl rfl rfl ht) au)))
  (aK [.fact 0 (.one (.i)),.fact 1 (.one (.i))] ⟨fun _ _ h=>⟨⟨_,h⟩,fun _ e=>by rw [h] at e;cases e⟩,fun _ _ h=>⟨⟨_,h⟩,fun _ e=>by rw [h] at e;cases e⟩,trivial⟩) bg
theorem _root_.Go.Proofs.YtomamliepbhegaaGreat.II (x y:Int) (x1 : -9223372036854775808<=x) (x2:x<=9223372036854775807) (y1 : -9223372036854775808<=y) (y2:y<=9223372036854775807) (ht:aR x y=t):Calls prog 50 #[.int .i64 x,.int .i64 y] w (jr w t 6):=iR (ofr x1 x2 y1 y2 ht) rfl (vs:=[.int .i64 x,.int .i64 y]) ⟨fun _ _=>rfl,fun _ _=>rfl,trivial⟩
theorem vi  (hx:Φ x=Dw t 6) (hx1:Φ x1=fun w v=>af w v t.num 6) (hx2:Φ x2=fun w v=>af w v (t.den:Int) 6) (ht:aR z y=t) (z1:-9223372036854775808<=z:=by decide) (z2:z<=9223372036854775807:=by decide) (y1:-9223372036854775808<=y:=by decide) (y2:y<=9223372036854775807:=by decide):aj Φ prog ⟨50,[.lit (.ci .i64 z),.lit (.ci .i64 y)],[⟨sS,[(0,0,x),(0,2,x1),(2,2,x2)]⟩],false⟩:=
 fk fun _ w v u h0 h1=>by
  obtain rfl:v = .int .i64 z:=h0
  obtain rfl:u = .int .i64 y:=h1
  exact (II z y z1 z2 y1 y2 ht).mono fun _ _ h=>ng hx hx1 hx2 h
def aeC (q r t:Rat) (i j:Nat):List WP:=[Dw q i,fun w v=>af w v q.num i,fun w v=>af w v (q.den:Int) i,Dw r j,fun w v=>af w v r.num j,fun w v=>af w v (r.den:Int) j,fun w v=>af w v (q.num*(r.den:Int)) (i+j),fun w v=>af w v (r.num*(q.den:Int)) (j+i),fun w v=>af w v ((q.num*(r.den:Int))+(r.num*(q.den:Int))) ((i+j)+(j+i)+1),fun w v=>af w v ((q.den:Int)*(r.den:Int)) (i+j),Dw t (((i+j)+(j+i)+1)+(i+j)+2),fun w v=>af w v t.num (((i+j)+(j+i)+1)+(i+j)+2),fun w v=>af w v (t.den:Int) (((i+j)+(j+i)+1)+(i+j)+2),Dw t (3*(i+j)+3)]
def aeD:List Out:=[⟨.agg [.s,.b,.s,.b],[(0,0,0),(0,2,1),(2,2,2)]⟩,⟨.agg [.s,.b,.s,.b],[(0,0,3),(0,2,4),(2,2,5)]⟩]
def aeE:List Step:=[.base ⟨46,[1,5],[oD 6],false⟩,.base ⟨46,[4,2],[oD 7],false⟩,.base ⟨56,[6,7],[oD 8],false⟩,.base ⟨46,[2,5],[oD 9],false⟩,.base ⟨38,[8,9],[⟨.agg [.s,.b,.s,.b],[(0,0,10),(0,2,11),(2,2,12)]⟩],false⟩]
theorem addr {i:Nat} (hk:i+j<=50000) (ht:q+r=t):aj (ph (aeC q r t i j)) prog ⟨27,[0,3],[⟨sS,[(0,0,13)]⟩],false⟩:=
 aV aeD [oQ 10] aeE func27 (by kernel_rfl) (lB (gL dD dD rfl rfl) (lB (gL dD dD rfl rfl) (lB (Jn dD dD rfl rfl) (lB (gL dD dD rfl rfl) (lB (kH dD dD rfl rfl rfl (by rw [<- ht,aew])) au)))))
  (aK [.sub 0 (.agg [.s,.b,.s,.b]) [(0,2,1),(2,2,2)],.sub 3 (.agg [.s,.b,.s,.b]) [(0,2,4),(2,2,5)]] ⟨⟨fun _ _ h=>al.is h,fun _ _ h=>al.fst h,fun _ _ h=>al.snd h,trivial⟩,⟨fun _ _ h=>al.is h,fun _ _ h=>al.fst h,fun _ _ h=>al.snd h,trivial⟩,trivial⟩) (jt (weak fun _ _ h=>al.more h (by omega)))
theorem _root_.Go.Proofs.YtomamliepbhegaaGreat.aeF {i:Nat} (hx:al w v q i) (hy:al w u r j) (hk:i+j<=50000) (ht:q+r=t):Calls prog 27 #[v,u] w (jr w t (3*(i+j)+3)):=iR (addr (q:=q) (r:=r) (i:=i) (j:=j) hk ht) rfl (vs:=[v,u]) ⟨ld rfl (fun _ _ _ g h=>al.kp h g) hx,ld rfl (fun _ _ _ g h=>al.kp h g) hy,trivial⟩
theorem acv {q i:Nat}{z:Rat}{y:Rat} (hp:∀w v,Φ p w v->al w v z i) (hq:∀w v,Φ q w v->al w v y j) (hx:Φ x=Dw t (3*(i+j)+3)) (hx1:Φ x1=fun w v=>af w v t.num (3*(i+j)+3)) (hx2:Φ x2=fun w v=>af w v (t.den:Int) (3*(i+j)+3)) (ht:z+y=t) (hk:i+j<=50000:=by omega):aj Φ prog ⟨27,[.fact p,.fact q],[⟨sS,[(0,0,x),(0,2,x1),(2,2,x2)]⟩],false⟩:=
 fk fun _ _ _ _ h0 h1=>(aeF (hp _ _ (get h0)) (hq _ _ (get h1)) hk ht).mono fun _ _ h=>ng hx hx1 hx2 h
def aeG (q r t:Rat) (i j:Nat):List WP:=[Dw q i,fun w v=>af w v q.num i,fun w v=>af w v (q.den:Int) i,Dw r j,fun w v=>af w v r.num j,fun w v=>af w v (r.den:Int) j,fun w v=>af w v (q.num*r.num) (i+j),fun w v=>af w v ((q.den:Int)*(r.den:Int)) (i+j),Dw t ((i+j)+(i+j)+2),fun w v=>af w v t.num ((i+j)+(i+j)+2),fun w v=>af w v (t.den:Int) ((i+j)+(i+j)+2),Dw t (2*(i+j)+2)]
def aeH:List Out:=[⟨.agg [.s,.b,.s,.b],[(0,0,0),(0,2,1),(2,2,2)]⟩,⟨.agg [.s,.b,.s,.b],[(0,0,3),(0,2,4),(2,2,5)]⟩]
def aeI:List Step:=[.base ⟨46,[1,4],[oD 6],false⟩,.base ⟨46,[2,5],[oD 7],false⟩,.base ⟨38,[6,7],[⟨.agg [.s,.b,.s,.b],[(0,0,8),(0,2,9),(2,2,10)]⟩],false⟩]
theorem aeJ {i:Nat} (hk:i+j<=50000) (ht:q*r=t):aj (ph (aeG q r t i j)) prog ⟨28,[0,3],[⟨sS,[(0,0,11)]⟩],false⟩:=
 aV aeH [oQ 8] aeI func28 (by kernel_rfl) (lB (gL dD dD rfl rfl) (lB (gL dD dD rfl rfl) (lB (kH dD dD rfl rfl rfl (by rw [<- ht,aex])) au)))
  (aK [.sub 0 (.agg [.s,.b,.s,.b]) [(0,2,1),(2,2,2)],.sub 3 (.agg [.s,.b,.s,.b]) [(0,2,4),(2,2,5)]] ⟨⟨fun _ _ h=>al.is h,fun _ _ h=>al.fst h,fun _ _ h=>al.snd h,trivial⟩,⟨fun _ _ h=>al.is h,fun _ _ h=>al.fst h,fun _ _ h=>al.snd h,trivial⟩,trivial⟩) (jt (weak fun _ _ h=>al.more h (by omega)))
theorem _root_.Go.Proofs.YtomamliepbhegaaGreat.aeK {i:Nat} (hx:al w v q i) (hy:al w u r j) (hk:i+j<=50000) (ht:q*r=t):Calls prog 28 #[v,u] w (jr w t (2*(i+j)+2)):=iR (aeJ (q:=q) (r:=r) (i:=i) (j:=j) hk ht) rfl (vs:=[v,u]) ⟨ld rfl (fun _ _ _ g h=>al.kp h g) hx,ld rfl (fun _ _ _ g h=>al.kp h g) hy,trivial⟩
theorem Bg {q i:Nat}{z:Rat}{y:Rat} (hp:∀w v,Φ p w v->al w v z i) (hq:∀w v,Φ q w v->al w v y j) (hx:Φ x=Dw t (2*(i+j)+2)) (hx1:Φ x1=fun w v=>af w v t.num (2*(i+j)+2)) (hx2:Φ x2=fun w v=>af w v (t.den:Int) (2*(i+j)+2)) (ht:z*y=t) (hk:i+j<=50000:=by omega):aj Φ prog ⟨28,[.fact p,.fact q],[⟨sS,[(0,0,x),(0,2,x1),(2,2,x2)]⟩],false⟩:=
 fk fun _ _ _ _ h0 h1=>(aeK (hp _ _ (get h0)) (hq _ _ (get h1)) hk ht).mono fun _ _ h=>ng hx hx1 hx2 h
def aeL (q r t:Rat) (i j:Nat):List WP:=[Dw q i,fun w v=>af w v q.num i,fun w v=>af w v (q.den:Int) i,Dw r j,fun w v=>af w v r.num j,fun w v=>af w v (r.den:Int) j,fun w v=>af w v (q.num*(r.den:Int)) (i+j),fun w v=>af w v ((q.den:Int)*r.num) (i+j),Dw t ((i+j)+(i+j)+2),fun w v=>af w v t.num ((i+j)+(i+j)+2),fun w v=>af w v (t.den:Int) ((i+j)+(i+j)+2),Dw t (2*(i+j)+2)]
def aeM:List Out:=[⟨.agg [.s,.b,.s,.b],[(0,0,0),(0,2,1),(2,2,2)]⟩,⟨.agg [.s,.b,.s,.b],[(0,0,3),(0,2,4),(2,2,5)]⟩]
def aeN:List Step:=[.base ⟨46,[1,5],[oD 6],false⟩,.base ⟨46,[2,4],[oD 7],false⟩,.base ⟨38,[6,7],[⟨.agg [.s,.b,.s,.b],[(0,0,8),(0,2,9),(2,2,10)]⟩],false⟩]
theorem aeO {i:Nat} (hk:i+j<=50000) (h0:r≠0) (ht:q / r=t):aj (ph (aeL q r t i j)) prog ⟨49,[0,3],[⟨sS,[(0,0,11)]⟩],false⟩:=
 aV aeM [oQ 8] aeN func49 (by kernel_rfl) (lB (gL dD dD rfl rfl) (lB (gL dD dD rfl rfl) (lB (kH dD dD rfl rfl rfl (by rw [<- ht,aey q h0])) au)))
  (aK [.sub 0 (.agg [.s,.b,.s,.b]) [(0,2,1),(2,2,2)],.sub 3 (.agg [.s,.b,.s,.b]) [(0,2,4),(2,2,5)]] ⟨⟨fun _ _ h=>al.is h,fun _ _ h=>al.fst h,fun _ _ h=>al.snd h,trivial⟩,⟨fun _ _ h=>al.is h,fun _ _ h=>al.fst h,fun _ _ h=>al.snd h,trivial⟩,trivial⟩) (jt (weak fun _ _ h=>al.more h (by omega)))
theorem _root_.Go.Proofs.YtomamliepbhegaaGreat.acH {i:Nat} (hx:al w v q i) (hy:al w u r j) (hk:i+j<=50000) (h0:r≠0) (ht:q / r=t):Calls prog 49 #[v,u] w (jr w t (2*(i+j)+2)):=iR (aeO (q:=q) (r:=r) (i:=i) (j:=j) hk h0 ht) rfl (vs:=[v,u]) ⟨ld rfl (fun _ _ _ g h=>al.kp h g) hx,ld rfl (fun _ _ _ g h=>al.kp h g) hy,trivial⟩
def aeP (q t:Rat) (i:Nat):List WP:=[Dw q i,fun w v=>af w v q.num i,fun w v=>af w v (q.den:Int) i,fun w v=>af w v (-q.num) i,Dw t i]
def aeQ:List Out:=[⟨.agg [.s,.b,.s,.b],[(0,0,0),(0,2,1),(2,2,2)]⟩]
def aeR:List Step:=[.base ⟨59,[1],[oD 3],false⟩]
theorem aeS {i:Nat} (ht : -q=t):aj (ph (aeP q t i)) prog ⟨48,[0],[⟨sS,[(0,0,4)]⟩],false⟩:=
 aV aeQ [⟨.agg [.s,.b,.s,.b],[(0,2,3),(2,2,2)]⟩] aeR func48 (by kernel_rfl) (lB (qW dD rfl rfl) au)
  (aK [.sub 0 (.agg [.s,.b,.s,.b]) [(0,2,1),(2,2,2)]] ⟨⟨fun _ _ h=>al.is h,fun _ _ h=>al.fst h,fun _ _ h=>al.snd h,trivial⟩,trivial⟩) (jt (halves fun _ _ hs h1 h2=>al.join hs (af.fl h1 (by rw [<- ht,Rat.neg_num])) (af.fl h2 (by rw [<- ht,Rat.neg_den]))))
theorem _root_.Go.Proofs.YtomamliepbhegaaGreat.aeT {i:Nat} (hx:al w v q i) (ht : -q=t):Calls prog 48 #[v] w (jr w t i):=iR (aeS ht) rfl (vs:=[v]) ⟨ld rfl (fun _ _ _ g h=>al.kp h g) hx,trivial⟩
theorem Pb {i:Nat}{z:Rat} (hp:∀w v,Φ p w v->al w v z i) (hx:Φ x=Dw t i) (hx1:Φ x1=fun w v=>af w v t.num i) (hx2:Φ x2=fun w v=>af w v (t.den:Int) i) (ht : -z=t):aj Φ prog ⟨48,[.fact p],[⟨sS,[(0,0,x),(0,2,x1),(2,2,x2)]⟩],false⟩:=
 fW fun _ _ _ h0=>(aeT (hp _ _ (get h0)) ht).mono fun _ _ h=>ng hx hx1 hx2 h
theorem _root_.Go.Proofs.YtomamliepbhegaaGreat.ai.nor  (h:ai w v z k):gV w v z:=h.1
theorem abI {q i j:Nat}{r:Bool} (hp:∀w v,Φ p w v->af w v z i) (hq:∀w v,Φ q w v->ai w v y j) (he:z=y) (hr:true=r) (hk:i<=1000000:=by omega):aj Φ prog ⟨61,[.fact p,.fact q],[oL (.cb r)],false⟩:=
 fk fun _ _ _ _ h0 h1=>(hr▸adN (hp _ _ (get h0)) hk (he▸(hq _ _ (get h1)).1)).mono fun _ _ h=>yP h
theorem eC.fst  (h:eC w v q k):ai w (bw 0 2 v) q.num k:=by obtain ⟨_,_,_,_,_,_,_,_,rfl,h1,_⟩:=h;exact h1
theorem eC.snd  (h:eC w v q k):ai w (bw 2 2 v) (q.den:Int) k:=by obtain ⟨_,_,_,_,_,_,_,_,rfl,_,h2⟩:=h;exact h2
theorem _root_.Go.Proofs.YtomamliepbhegaaGreat.aeU {p:Option Addr}{cap m:Nat} (hx:Sl w .u32 (.slice p xs.length cap) xs) (hm:(xs.take k).length=m):Sl w .u32 (.slice p m cap) (xs.take k):=by
 have:=hx.take (min xs.length k) (Nat.min_le_left _ _)
 rw [show xs.take (min xs.length k)=xs.take k by
  rcases Nat.le_total xs.length k with h | h
  ·rw [Nat.min_eq_left h,List.take_length,List.take_of_length_le h]
  ·rw [Nat.min_eq_right h]] at this
 rw [<- hm,List.length_take,Nat.min_comm]
 exact this
theorem aT.i  (k:Nat) (h:aT w v b xs) (hk:xs.length<=k):aE w v (sg b (Proofs.YtomamliepbhegaaGreat.val 4294967296 xs)) k:=by
 obtain ⟨s,rfl,h1,h2⟩:=h
 exact ⟨_,_,_,rfl,Num.row h1 h2 k hk,rfl⟩
theorem aeV  (k:Nat){ki:Int} (hki:(k:Int)=ki) (hp:∀w v,Φ p w v->aT w v b xs) (hx:Φ x=fun w v=>aT w v b (xs.take k)) (hx':Φ x'=Iw z k) (hz:sg b (Proofs.YtomamliepbhegaaGreat.val 4294967296 (xs.take k))=z):aj Φ prog ⟨41,[.fact p,.lit (.ci .i64 ki)],[⟨iS,[(0,0,x),(0,0,x')]⟩],false⟩:=
 fk fun _ w v u h0 h1=>by
  subst hki
  obtain rfl:u = .int .i64 k:=h1
  obtain ⟨s,rfl,a1,a2⟩:=hp _ _ (get h0)
  obtain ⟨p,c,rfl,c1,-⟩:=id a1
  obtain ⟨m,hm⟩:∃m,(xs.take k).length=m:=⟨_,rfl⟩
  refine (adP k c1 hm).mono fun e w' ⟨he,g⟩=>⟨g,[_],he,⟨qV,fun q hq w1 hw=>?_⟩,trivial⟩
  have r:aT w1 (.agg #[.bool b,.slice p m c]) b (xs.take k):=aT.kp ⟨_,rfl,(aeU a1 hm).kp (Kp.of g),a2.take k⟩ hw.1
  simp only [List.mem_cons,List.not_mem_nil,or_false] at hq
  rcases hq with rfl | rfl
  ·show Φ x w1 _;rw [hx];exact r
  ·show Φ x' w1 _;rw [hx'];exact hz▸aT.i k r (by rw [List.length_take];omega)
theorem gp.fst  (h:gp w v b xs b' ys):aT w (bw 0 2 v) b xs:=by obtain ⟨s,s',rfl,h1,h2,h3,h4⟩:=h;exact ⟨_,rfl,h1,h2⟩
theorem gp.snd  (h:gp w v b xs b' ys):aT w (bw 2 2 v) b' ys:=by obtain ⟨s,s',rfl,h1,h2,h3,h4⟩:=h;exact ⟨_,rfl,h3,h4⟩
theorem gp.join  (hs:qS.is v) (h1:aT w (bw 0 2 v) b xs) (h2:aT w (bw 2 2 v) b' ys):gp w v b xs b' ys:=by
 obtain ⟨vs,rfl,h⟩:=hs
 match vs,h with
 | [v0,v1,v2,v3],h=>
  obtain ⟨s,e,a1,a2⟩:=h1
  obtain ⟨s',e',a3,a4⟩:=h2
  have e1:(Value.agg #[v0,v1]) = .agg #[.bool b,s]:=e
  have e2:(Value.agg #[v2,v3]) = .agg #[.bool b',s']:=e'
  simp only [Value.agg.injEq,Array.mk.injEq,List.cons.injEq,and_true] at e1 e2
  obtain ⟨rfl,rfl⟩:=e1
  obtain ⟨rfl,rfl⟩:=e2
  exact ⟨_,_,rfl,a1,a2,a3,a4⟩
theorem aa3 {q:Nat} (k:Nat) (hp:∀w v,Φ p w v->aT w v b xs) (hq:∀w v,Φ q w v->v = .int .i64 (k:Int)) (hx:Φ x=fun w v=>aT w v b (xs.take k)) (hx':Φ x'=Iw z k) (hz:sg b (Proofs.YtomamliepbhegaaGreat.val 4294967296 (xs.take k))=z):aj Φ prog ⟨41,[.fact p,.fact q],[⟨iS,[(0,0,x),(0,0,x')]⟩],false⟩:=fun X w vs hX ha=>by
 match vs,ha with
 | [v,u],ha=>
  exact aeV k rfl hp hx hx' hz X w [v,u] hX ⟨ha.1,hq _ _ (get ha.2.1),trivial⟩
def tV (w:World) (v:Value) (xs:List Nat):Prop:=Sl w .u32 v xs∧All 4294967296 xs
theorem tV.kp {w':World} (h:tV w v xs) (g:Kp w w'):tV w' v xs:=⟨h.1.kp g,h.2⟩
theorem aT.sl  (h:aT w v b xs):tV w (bw 1 1 v) xs:=by obtain ⟨s,rfl,h1,h2⟩:=h;exact ⟨h1,h2⟩
theorem aT.is'  (h:aT w v b xs):(bK.agg [.lit (.cb b),.s]).is v:=by
 obtain ⟨s,rfl,h1,h2⟩:=h
 obtain ⟨p,c,rfl,-⟩:=h1
 exact ⟨[_,_],rfl,rfl,⟨_,_,_,rfl⟩,trivial⟩
theorem gp.qv  (k:Nat){u:Int} (h:gp w v b xs b' ys) (h1:xs.length<=k) (h2:ys.length<=k) (hz:sg b (Proofs.YtomamliepbhegaaGreat.val 4294967296 xs)=z) (hu:sg b' (Proofs.YtomamliepbhegaaGreat.val 4294967296 ys)=u):QV w v z u k:=
 QV.join (gp.is h) (hz▸aT.i k (gp.fst h) h1) (hu▸aT.i k (gp.snd h) h2) (Nat.le_refl _) (Nat.le_refl _)
end
end Go.Proofs.YtomamliepbhegaaGreat.Sym
