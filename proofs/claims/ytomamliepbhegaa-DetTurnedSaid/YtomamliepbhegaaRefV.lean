/- Ratio's functions by the symbolic walk. The reference's rationals: Quo, Make. The reference's Make, by the symbolic walk. The reference's rationals, what comes in, copies and checks, by the symbolic walk. -/
import Derived.Test.YtomamliepbhegaaSymS
import Derived.Test.YtomamliepbhegaaRats
set_option maxRecDepth 100000
namespace Go.Proofs.Ytomamliepbhegaa.Sym
open Go.RowKit
section
variable {Φ:PH}
def QVb (w:World) (v:Value) (b:Bool) (z y:Int) (k:Nat):Prop:=∃s b' s',v = .agg #[.bool b,s,.bool b',s']∧Num w s z.natAbs k∧z=sg b z.natAbs∧aB w (.agg #[.bool b',s']) y k
theorem QVb.kp {w w':World}{v:Value}{b:Bool}{z y:Int}{k:Nat} (h:QVb w v b z y k) (g:Kp w w'):QVb w' v b z y k:=by
 obtain ⟨s,b',s',h1,h2,h3,h4⟩:=h
 exact ⟨s,b',s',h1,h2.kp g,h3,h4.kp g⟩
theorem QVb.is {w:World}{v:Value}{b:Bool}{z y:Int}{k:Nat} (h:QVb w v b z y k):(bn.agg [.lit (.cb b),.s,.b,.s]).is v:=by
 obtain ⟨s,b',s',rfl,h1,h2,h3⟩:=h
 obtain ⟨p,n,c,rfl⟩:=h1.slice
 obtain ⟨b2,p',n',c',e,h3⟩:=h3.open
 simp only [Value.agg.injEq,Array.mk.injEq,List.cons.injEq,Value.bool.injEq,and_true] at e
 obtain ⟨rfl,rfl⟩:=e
 exact ⟨[_,_,_,_],rfl,rfl,⟨_,_,_,rfl⟩,⟨_,rfl⟩,⟨_,_,_,rfl⟩,trivial⟩
theorem QVb.num {w:World}{v:Value}{b:Bool}{z y:Int}{k:Nat} (h:QVb w v b z y k):Num w (bh 1 1 v) z.natAbs k:=by
 obtain ⟨s,b',s',rfl,h1,h2,h3⟩:=h;exact h1
theorem QVb.snd {w:World}{v:Value}{b:Bool}{z y:Int}{k:Nat} (h:QVb w v b z y k):aB w (bh 2 2 v) y k:=by
 obtain ⟨s,b',s',rfl,h1,h2,h3⟩:=h;exact h3
end
end Go.Proofs.Ytomamliepbhegaa.Sym
namespace Go.Proofs.Ytomamliepbhegaa
open Go.RowKit
theorem In {w:World}{X k cap n:Nat}{p:Option Addr}{z:Int}{c:Bool} (b:Bool) (h:bV w (.slice p n cap) X k) (hn:n=(ak 10000 X).length) (hz:z=sg b X) (hc:c=(b && decide (0<n))):af w (.agg #[.slice p n cap,.bool c]) z k:=by
 subst hn hz hc
 refine ⟨p,cap,?_,?_⟩
 ·rw [lC,Lf,jQ _ _ (by omega)]
 ·rw [Lf];exact h
theorem af.flag {w:World}{p:Option Addr}{n c k:Nat}{b:Bool}{z:Int} (h:af w (.agg #[.slice p n c,.bool b]) z k):b=decide (z<0)∧n=(ak 10000 z.natAbs).length:=by
 obtain ⟨p',c',e,-⟩:=h
 simp only [Value.agg.injEq,Array.mk.injEq,List.cons.injEq,Value.bool.injEq,Value.slice.injEq,and_true] at e
 exact ⟨e.2,e.1.2.1⟩
def Cel (w:World) (blk off:Nat) (x:Int):Prop:=w.cell? ⟨blk,off,none⟩=some (.int .i64 x)
theorem Cel.kp {w w':World}{blk off:Nat}{x:Int} (h:Cel w blk off x) (g:Kp w w'):Cel w' blk off x:=g.2 _ _ _ (by decide) h
theorem vn {X:Nat} (h:(ak 10000 X).length=1):0<X∧X<10000:=by
 have h1:=gh (b:=10000) (by omega) X
 rw [h] at h1
 refine ⟨?_,by omega⟩
 rcases Nat.eq_zero_or_pos X with rfl | h2
 ·have:=(fb (b:=10000) (by omega) (n:=0)).2 rfl;omega
 ·exact h2
theorem af.one {w:World}{p:Option Addr}{c k:Nat}{b:Bool}{z:Int} (h:af w (.agg #[.slice p 1 c,.bool b]) z k):∃blk off,p=some ⟨blk,off,none⟩∧Cel w blk off (z.natAbs:Nat):=by
 obtain ⟨-,hn⟩:=h.flag
 obtain ⟨p',c',e,h2⟩:=h
 simp only [Value.agg.injEq,Array.mk.injEq,List.cons.injEq,Value.bool.injEq,Value.slice.injEq,and_true] at e
 obtain ⟨⟨rfl,-,rfl⟩,-⟩:=e
 obtain ⟨q,c2,e2,-,-,h3⟩:=h2.1
 simp only [Value.slice.injEq,true_and] at e2
 obtain ⟨rfl,rfl⟩:=e2
 have hx:=vn hn.symm
 rcases h3 with h3 | ⟨blk,off,rfl,-,h3⟩
 ·rw [h3] at hn;cases hn
 ·refine ⟨blk,off,rfl,?_⟩
  have:=h3 0 (by omega)
  rw [Mi (by omega) hx.1 hx.2] at this
  exact this
theorem pd (z:Int):(Rat.divInt z 1).num=z:=by rw [Rat.num_divInt];simp
theorem pe (z:Int):((Rat.divInt z 1).den:Int)=1:=by rw [Rat.den_divInt];simp
theorem ma {z y:Int} (h:0<y):cd z y=(Int.gcd z y:Int):=by rw [cd,if_neg (by omega)]
set_option maxHeartbeats 4000000 in
theorem Io {b b':Bool}{p q:Option Addr}{n m cap cap' X Y i j:Nat}{w:World} (hx:bV w (.slice p n cap) X i) (hy:bV w (.slice q m cap') Y j) (hi:i+j<=900000) (hY:0<Y) :
  Calls Try.prog 77 #[.agg #[.slice p n cap,.bool b],.agg #[.slice q m cap',.bool b']] w (Lj w (sg (b != b') (X / Y)) i):=by
 have Hx:=Lib.hid hx
 have Hy:=Lib.hid hy
 have S0:Kept w [(w.heap.size+1,0,(.slice q m cap')),(w.heap.size+1,1,(.bool b')),(w.heap.size,0,(.slice p n cap)),(w.heap.size,1,(.bool b))] [w.heap.size+1+1] (((w.alloc (.cells #[.slice p n cap,.bool b] 61)).alloc (.cells #[.slice q m cap',.bool b'] 61)).alloc (.cells #[.slice none 0 0,.bool false] 61)):=(((Kept.start w).box _ _ _ _ rfl).box _ _ _ _ (by simp)).res _ _ _ _ _ (by simp)
 clear hx hy
 go_enter Try.func77,Try.ntmps77
 go_wp2_with fail
 refine (sj (Hx.out.grown (Kept.all _ _ S0)) (Hy.out.grown (Kept.all _ _ S0)) (by omega) hY).mono ?_
 rintro e w1 ⟨vq,vr,rfl,hq,hr,bq,br,hg⟩
 obtain ⟨pq,cq,rfl⟩:=hq.slice
 obtain ⟨pr,cr,rfl⟩:=hr.slice
 have Hq:=Lib.hid hq
 have Bq:=Lib.hid bq
 replace S0:=Kept.grown _ _ S0 hg
 have s2:=S0.lt (g:=w.heap.size+1+1) (by simp)
 clear hg hq hr bq br
 obtain ⟨l,hl⟩:∃l,(ak 10000 (X / Y)).length=l:=⟨_,rfl⟩
 rw [hl] at Hq
 rw [hl]
 have Hl:=Lib.hid hl
 clear hl
 obtain ⟨c0,c1,c2,c3,r0,r1,f0,f1,G⟩:=id S0
 go_wp2_with fail
 refine (eI _ _ _ _ _).mono ?_
 rintro e w2 ⟨rfl,hg⟩
 replace S0:=Kept.grown _ _ S0 hg
 replace Hq:=Lib.hid (Hq.out.grown hg (.inl rfl))
 clear hg c0 c1 c2 c3 r0 r1 f0 f1 G
 obtain ⟨c0,c1,c2,c3,r0,r1,f0,f1,G⟩:=id S0
 go_wp2_with fail
 have G2:=Kept.all _ _ (Kept.set (g:=w.heap.size+1+1) (u:=.slice pq l cq) (v:=.bool ((b != b') && decide (0<l))) _ _ (by simp <;> omega) (by omega) S0)
 refine GK Try.results77 rfl rfl (dm r0) (dp r1) (Lj.mk (In (b != b') (X:=X / Y) ?_ Hl.out.symm rfl rfl) G2)
 exact ⟨(Hq.out.grown (gB _ _ _ _) (own_ne Hq.out (by first | omega | (simp <;> omega)))).sl,Bq.out⟩
set_option maxHeartbeats 4000000 in
theorem Ip {v u:Value}{z y t:Int}{i j:Nat}{w:World} (hx:af w v z i) (hy:af w u y j) (hi:i+j<=900000) (h0:y≠0) (hd:y∣z) (ht:z / y=t) :
  Calls Try.prog 77 #[v,u] w (Lj w t i):=by
 subst ht
 obtain ⟨b,p,n,cap,X,rfl,dx,rfl⟩:=hx.open
 obtain ⟨b',q,m,cap',Y,rfl,dy,rfl⟩:=hy.open
 have hY:Y≠0:=by rintro rfl;exact h0 (by cases b' <;> rfl)
 have hR:X % Y=0:=by
  have:=Int.natAbs_dvd_natAbs.2 hd
  rw [Lf,Lf] at this
  exact Nat.mod_eq_zero_of_dvd this
 rw [(AW (b:=b) (b':=b') hY (.inr hR)).1]
 exact Io dx dy hi (Nat.pos_of_ne_zero hY)
end Go.Proofs.Ytomamliepbhegaa
namespace Go.Proofs.Ytomamliepbhegaa.Sym
open Go.RowKit
def cc (y:Int) (i:Nat) (_:World) (v:Value):Prop:=v = .agg #[.int .i64 ((nth (ak 10000 y.natAbs) i:Nat):Int)]
theorem af.arr {w:World}{v:Value}{y:Int}{k n:Nat} (h:af w v y k) (h0:y≠0) (hl:(ak 10000 y.natAbs).length=n):Arr 1 (cc y) n w (bh 0 1 v):=by
 subst hl
 obtain ⟨p,c,rfl,h2⟩:=h
 obtain ⟨q,c2,e2,-,-,h3⟩:=h2.1
 simp only [Value.slice.injEq,true_and] at e2
 obtain ⟨rfl,rfl⟩:=e2
 rcases h3 with h3 | ⟨b,off,rfl,-,h3⟩
 ·have:=(fb (b:=10000) (by omega) (n:=y.natAbs)).1 (by rw [h3];rfl)
  omega
 ·refine ⟨_,_,rfl,fun i hi=>⟨b,off,rfl,[.int .i64 ((nth (ak 10000 y.natAbs) i:Nat):Int)],rfl,fun j u hj=>?_,rfl⟩⟩
  have h4:=h3 i hi
  match j,hj with
  | 0,hj=>
   simp only [List.getElem?_cons_zero,Option.some.injEq] at hj
   subst hj
   rw [Nat.mul_one,Nat.add_zero]
   exact h4
theorem af.isA {w:World}{v:Value}{y:Int}{k:Nat}{b:Bool} (h:af w v y k) (hb:decide (y<0)=b):(bn.agg [.s,.lit (.cb b)]).is v:=by
 obtain ⟨p,c,rfl,-⟩:=h
 exact ⟨_,rfl,⟨_,_,_,rfl⟩,by rw [hb];rfl,trivial⟩
section
variable {P:Program}{Φ:PH}{X:Nat->Prop}{p q x x2 i j n:Nat}{z y t:Int}{w w':World}{e:Ending}
theorem Iq {sh:bn}{u:Value}{G:WP}{w:World} (hs:sh.is u) (hx:Φ x=G) (h:∀w1,Off X w w1->G w1 u):bk Φ X w [⟨sh,[(0,0,x)]⟩] [u]:=⟨⟨hs,fun r hr w1 hw=>by
 simp only [List.mem_singleton] at hr;subst hr
 show Φ x w1 _;rw [hx];exact h w1 hw⟩,trivial⟩
theorem kw {T:TypeId} (hT:fD P T=some false) (hp:∀w v,Φ p w v->Ptr 1 (cc y 0) w v) (hx:Φ x=Ni ((nth (ak 10000 y.natAbs) 0:Nat):Int)):aj Φ P ⟨0,[.fact p],[oN x],.quiet (aL T)⟩:=fun X w ac o xs _ hm ha=>by
 unfold aL at hm
 split at hm
 case h_2=>cases hm
 rename_i t y ho
 split at hm
 case isFalse=>cases hm
 rename_i ht
 subst ht
 simp only [Option.some.injEq] at hm
 subst hm
 obtain ⟨b,off,hv,l,h1,h2,h3⟩:=hp _ _ (ha.1 w (Off.refl _ _))
 have h3:Value.agg l.toArray = .agg #[.int .i64 _]:=h3
 obtain rfl:l = [.int .i64 _]:=by simpa using h3
 have hc:=h2 0 _ rfl
 refine ⟨.int .i64 _,w,?_,ba w none,Iq ⟨⟨_,rfl⟩,fun _ h=>by cases h⟩ hx fun _ _=>rfl⟩
 rw [Nat.add_zero] at hc
 unfold execOp
 simp [ho,hv,Instr.loadAt,Instr.sureAddr,loadVar,fE hT,hc]
theorem vo (hx:Φ x=fun w v=>af w v t i) (hx2:Φ x2=Arr 1 (cc t) n) (h0:0<t) (hl:(ak 10000 t.natAbs).length=n) (h:Lj w t i e w'):post Φ X [⟨.agg [.s,.lit (.cb false)],[(0,0,x),(0,1,x2)]⟩] false w e w':=by
 obtain ⟨s,m,c,b,rfl,h1,h2⟩:=h
 obtain rfl:b=false:=h1.flag.1.trans (decide_eq_false (by omega))
 refine ⟨h2,[_],rfl,⟨⟨_,rfl,⟨_,_,_,rfl⟩,rfl,trivial⟩,fun q hq w1 hw=>?_⟩,trivial⟩
 have h':=af.kp h1 hw.1
 simp only [List.mem_cons,List.not_mem_nil,or_false] at hq
 rcases hq with rfl | rfl
 ·show Φ x w1 _;rw [hx];exact h'
 ·show Φ x2 w1 _;rw [hx2];exact af.arr h' (by omega) hl
theorem pf (hp:∀w v,Φ p w v->af w v z i) (hx:Φ x=fun w v=>af w v (-z) i) (hx2:Φ x2=Arr 1 (cc (-z)) n) (h0:z<0) (hl:(ak 10000 (-z).natAbs).length=n):aj Φ Try.prog ⟨75,[.fact p],[⟨.agg [.s,.lit (.cb false)],[(0,0,x),(0,1,x2)]⟩],false⟩:=
 fl fun _ _ _ h1=>(uW (hp _ _ (get h1)) rfl).mono fun _ _ h=>vo hx hx2 (by omega) hl h
theorem Ir (hx:Φ x=fun w v=>af w v 1 2) (hx2:Φ x2=Arr 1 (cc 1) 1):aj Φ Try.prog ⟨31,[.lit (.ci .i64 1)],[⟨.agg [.s,.lit (.cb false)],[(0,0,x),(0,1,x2)]⟩],false⟩:=
 fl fun _ _ v h1=>by
  obtain rfl:v = .int .i64 1:=h1
  exact (Ml 1 (by decide) (by decide) rfl).mono fun _ _ h=>vo hx hx2 (by decide) (by decide +kernel) h
theorem gl (hp:∀w v,Φ p w v->af w v z i) (hq:∀w v,Φ q w v->af w v y j) (hx:Φ x=fun w v=>af w v t i) (hi:i+j<=900000) (h0':y≠0) (h1':y∣z) (ht:z / y=t):aj Φ Try.prog ⟨77,[.fact p,.fact q],[⟨dS,[(0,0,x)]⟩],false⟩:=
 Ld fun _ _ _ _ h0 h1=>(Ip (hp _ _ (get h0)) (hq _ _ (get h1)) hi h0' h1' ht).mono fun _ _ h=>gm hx h
theorem pg {b:Bool}{p1 p2:Nat} (h:∀w v,sS.is v->Φ p1 w (bh 0 2 v)->Φ p2 w (bh 2 2 v)->Φ x w v) (X:Nat->Prop) (w:World) (v:Value) (hv:(bn.agg [.s,.b,.s,.lit (.cb b)]).is v∧∀q,q ∈ [(0,2,p1),(2,2,p2)]->∀w1,Off X w w1->Φ q.2.2 w1 (bh q.1 q.2.1 v)):sS.is v∧∀q,q ∈ [(0,0,x)]->∀w1,Off X w w1->Φ q.2.2 w1 (bh q.1 q.2.1 v):=by
 have hs:sS.is v:=by
  obtain ⟨vs,rfl,h⟩:=hv.1
  match vs,h with
  | [v0,v1,v2,v3],h=>
   obtain ⟨h0,h1,h2,h3,_⟩:=h
   exact ⟨_,rfl,h0,h1,h2,⟨_,h3⟩,trivial⟩
 exact ⟨hs,fun q hq w1 hw=>by
  simp only [List.mem_singleton] at hq
  subst hq
  exact h w1 _ hs (hv.2 (0,2,p1) (by simp) w1 hw) (hv.2 (2,2,p2) (by simp) w1 hw)⟩
theorem Iu {m:Nat} (hl:(ak 10000 m).length=1):nth (ak 10000 m) 0=m:=by
 have h:=vn hl
 rw [Mi (by omega) h.1 h.2];rfl
theorem vt (h0:y=0):aN z y=Rat.divInt z 1:=by rw [aN,if_pos h0]
theorem mb (h0:y<0):aN z y=Rat.divInt (-z) (-y):=by rw [gi (by omega),Rat.neg_divInt_neg]
theorem Iv (h0:y=0):z=(aN z y).num:=by rw [vt h0,pd]
theorem Ix (h0:y=0):(1:Int)=((aN z y).den:Int):=by rw [vt h0,pe]
theorem jS (h0:0<y) (hl:(ak 10000 y.natAbs).length=1) (hd:nth (ak 10000 y.natAbs) 0=1):y=1:=by
 rw [Iu hl] at hd;omega
theorem Iy (h0:0<y) (hl:(ak 10000 y.natAbs).length=1) (hd:nth (ak 10000 y.natAbs) 0=1):z=(aN z y).num:=by
 rw [jS h0 hl hd,gi (by decide),pd]
theorem Iz (h0:0<y) (hl:(ak 10000 y.natAbs).length=1) (hd:nth (ak 10000 y.natAbs) 0=1):y=((aN z y).den:Int):=by
 rw [jS h0 hl hd,gi (by decide),pe]
theorem IA (h0:y<0) (hl:(ak 10000 (-y).natAbs).length=1) (hd:nth (ak 10000 (-y).natAbs) 0=1) : -z=(aN z y).num:=by
 rw [mb h0,jS (by omega) hl hd,pd]
theorem IB (h0:y<0) (hl:(ak 10000 (-y).natAbs).length=1) (hd:nth (ak 10000 (-y).natAbs) 0=1) : -y=((aN z y).den:Int):=by
 rw [mb h0,jS (by omega) hl hd,pe]
theorem vu (h0:0<y):z / cd z y=(aN z y).num:=by rw [gi (by omega)];exact uL (by omega)
theorem vv (h0:0<y):y / cd z y=((aN z y).den:Int):=by rw [gi (by omega)];exact uM (by omega)
theorem vw (h0:y<0) : -z / cd (-z) (-y)=(aN z y).num:=by rw [mb h0];exact uL (by omega)
theorem vz (h0:y<0) : -y / cd (-z) (-y)=((aN z y).den:Int):=by rw [mb h0];exact uM (by omega)
def IC (z y:Int) (t:Rat) (i j:Nat):List WP:=[fun w v=>af w v z i,fun w v=>af w v y j,fun w v=>af w v 1 2,Arr 1 (cc (1:Int)) 1,Ptr 1 ((cc (1:Int)) 0),Ni ((nth (ak 10000 (1:Int).natAbs) 0:Nat):Int),Dw t (i+j+2)]
def ID:List Out:=[oD 0,oD 1]
def IE:List Site:=[⟨74,[.fact 1],oT,false⟩,
   ⟨31,[.lit (.ci .i64 1)],[⟨.agg [.s,.lit (.cb false)],[(0,0,2),(0,1,3)]⟩],false⟩,
   ⟨0,[.fact 3],[oL (.ci .i64 1)],.quiet (aD 59)⟩,
   ⟨0,[.fact 3,.lit (.ci .i64 0)],[oP 4],.quiet (aI 59)⟩,
   ⟨0,[.fact 4],[oN 5],.quiet (aL 3)⟩,
   ⟨0,[.fact 5,.lit (.ci .i64 1)],oT,.quiet (ai .eql)⟩]
theorem IF {z y:Int}{t:Rat}{i j:Nat} (_hk:i+j<=200000) (h0:y=0) (ht:aN z y=t):aj (ph (IC z y t i j)) Try.prog ⟨47,[.fact 0,.fact 1],[⟨sS,[(0,0,6)]⟩],false⟩:=by
 skip
 exact fm ID [⟨.agg [.s,.b,.s,.lit (.cb false)],[(0,2,0),(2,2,2)]⟩] IE Try.func47 (by kernel_rfl)
  (all_cons (fj dD (decide_eq_true h0))
   (all_cons (Ir rfl rfl)
   (all_cons (kx (n:=1) (sz:=1) (F:=(cc (1:Int))) rfl Try.underlying59 aa)
   (all_cons (fW (n:=1) (sz:=1) 0 (F:=(cc (1:Int))) Try.underlying59 (by kernel_rfl) aa rfl (by decide) rfl)
   (all_cons (kw (by kernel_rfl) aa rfl)
   (all_cons (bi (op:=.eql) aa (fun t w=>by rw [<- show decide (((nth (ak 10000 (1:Int).natAbs) 0:Nat):Int)=1)=true from (by decide +kernel)];rfl))
   all_nil))))))
  (aJ [.fact 0 (.agg [.s,.b]),.fact 1 (.agg [.s,.b])] ⟨fun _ _ h=>af.is h,fun _ _ h=>af.is h,trivial⟩) (fI (pg fun _ _ hs h1 h2=>am.join hs (af.more (af.Li h1 (by rw [<- ht];exact Iv h0)) (by omega)) (af.more (af.Li h2 (by rw [<- ht];exact Ix h0)) (by omega))))
def IG (z y:Int) (t:Rat) (i j:Nat):List WP:=[fun w v=>af w v z i,fun w v=>af w v y j,Arr 1 (cc y) 1,Ptr 1 ((cc y) 0),Ni ((nth (ak 10000 y.natAbs) 0:Nat):Int),Dw t (i+j+2)]
def IH:List Out:=[oD 0,⟨.agg [.s,.lit (.cb false)],[(0,0,1),(0,1,2)]⟩]
def II:List Site:=[⟨74,[.fact 1],oF,false⟩,
   ⟨0,[.fact 2],[oL (.ci .i64 1)],.quiet (aD 59)⟩,
   ⟨0,[.fact 2,.lit (.ci .i64 0)],[oP 3],.quiet (aI 59)⟩,
   ⟨0,[.fact 3],[oN 4],.quiet (aL 3)⟩,
   ⟨0,[.fact 4,.lit (.ci .i64 1)],oT,.quiet (ai .eql)⟩]
theorem IJ {z y:Int}{t:Rat}{i j:Nat} (_hk:i+j<=200000) (h0:0<y) (ht:aN z y=t) (hl:(ak 10000 y.natAbs).length=1) (hd:nth (ak 10000 y.natAbs) 0=1):aj (ph (IG z y t i j)) Try.prog ⟨47,[.fact 0,.fact 1],[⟨sS,[(0,0,5)]⟩],false⟩:=by
 have hp:0<y:=h0
 exact fm IH [⟨.agg [.s,.b,.s,.lit (.cb false)],[(0,2,0),(2,2,1)]⟩] II Try.func47 (by kernel_rfl)
  (all_cons (fj dD (decide_eq_false (by omega)))
   (all_cons (kx (n:=1) (sz:=1) (F:=(cc y)) rfl Try.underlying59 aa)
   (all_cons (fW (n:=1) (sz:=1) 0 (F:=(cc y)) Try.underlying59 (by kernel_rfl) aa rfl (by decide) rfl)
   (all_cons (kw (by kernel_rfl) aa rfl)
   (all_cons (bi (op:=.eql) aa (fun t w=>by rw [<- show decide (((nth (ak 10000 y.natAbs) 0:Nat):Int)=1)=true from decide_eq_true (by rw [hd];rfl)];rfl))
   all_nil)))))
  (aJ [.fact 0 (.agg [.s,.b]),.sub 1 (.agg [.s,.lit (.cb false)]) [(0,1,2)]] ⟨fun _ _ h=>af.is h,⟨fun _ _ h=>af.isA h (decide_eq_false (by omega)),fun _ _ h=>af.arr h (by omega) hl,trivial⟩,trivial⟩) (fI (pg fun _ _ hs h1 h2=>am.join hs (af.more (af.Li h1 (by rw [<- ht];exact Iy h0 hl hd)) (by omega)) (af.more (af.Li h2 (by rw [<- ht];exact Iz h0 hl hd)) (by omega))))
def IK (z y:Int) (t:Rat) (i j:Nat):List WP:=[fun w v=>af w v z i,fun w v=>af w v y j,Arr 1 (cc y) 1,Ptr 1 ((cc y) 0),Ni ((nth (ak 10000 y.natAbs) 0:Nat):Int),fun w v=>af w v (cd z y) (i+j),fun w v=>af w v (z / (cd z y)) i,fun w v=>af w v (y / (cd z y)) j,Dw t (i+j+2)]
def IL:List Out:=[oD 0,⟨.agg [.s,.lit (.cb false)],[(0,0,1),(0,1,2)]⟩]
def IM:List Site:=[⟨74,[.fact 1],oF,false⟩,
   ⟨0,[.fact 2],[oL (.ci .i64 1)],.quiet (aD 59)⟩,
   ⟨0,[.fact 2,.lit (.ci .i64 0)],[oP 3],.quiet (aI 59)⟩,
   ⟨0,[.fact 3],[oN 4],.quiet (aL 3)⟩,
   ⟨0,[.fact 4,.lit (.ci .i64 1)],oF,.quiet (ai .eql)⟩,
   ⟨76,[.fact 0,.fact 1],[oD 5],false⟩,
   ⟨77,[.fact 0,.fact 5],[oD 6],false⟩,
   ⟨77,[.fact 1,.fact 5],[oD 7],false⟩]
theorem IN {z y:Int}{t:Rat}{i j:Nat} (hk:i+j<=200000) (h0:0<y) (ht:aN z y=t) (hl:(ak 10000 y.natAbs).length=1) (h1:nth (ak 10000 y.natAbs) 0≠1):aj (ph (IK z y t i j)) Try.prog ⟨47,[.fact 0,.fact 1],[⟨sS,[(0,0,8)]⟩],false⟩:=by
 have hp:0<y:=h0
 exact fm IL [⟨.agg [.s,.b,.s,.b],[(0,2,6),(2,2,7)]⟩] IM Try.func47 (by kernel_rfl)
  (all_cons (fj dD (decide_eq_false (by omega)))
   (all_cons (kx (n:=1) (sz:=1) (F:=(cc y)) rfl Try.underlying59 aa)
   (all_cons (fW (n:=1) (sz:=1) 0 (F:=(cc y)) Try.underlying59 (by kernel_rfl) aa rfl (by decide) rfl)
   (all_cons (kw (by kernel_rfl) aa rfl)
   (all_cons (bi (op:=.eql) aa (fun t w=>by rw [<- show decide (((nth (ak 10000 y.natAbs) 0:Nat):Int)=1)=false from decide_eq_false (by omega)];rfl))
   (all_cons (me (i+j) dD dD rfl (by omega) (by omega) (by omega) (ma hp).symm)
   (all_cons (gl dD dD rfl (by omega) (gj (by omega)) (LO _ _) rfl)
   (all_cons (gl dD dD rfl (by omega) (gj (by omega)) (LP _ _) rfl)
   all_nil))))))))
  (aJ [.fact 0 (.agg [.s,.b]),.sub 1 (.agg [.s,.lit (.cb false)]) [(0,1,2)]] ⟨fun _ _ h=>af.is h,⟨fun _ _ h=>af.isA h (decide_eq_false (by omega)),fun _ _ h=>af.arr h (by omega) hl,trivial⟩,trivial⟩) (fI (halves fun _ _ hs h1 h2=>am.join hs (af.more (af.Li h1 (by rw [<- ht];exact vu h0)) (by omega)) (af.more (af.Li h2 (by rw [<- ht];exact vv h0)) (by omega))))
def IP (z y:Int) (t:Rat) (i j n:Nat):List WP:=[fun w v=>af w v z i,fun w v=>af w v y j,Arr 1 (cc y) n,Nz n,fun w v=>af w v (cd z y) (i+j),fun w v=>af w v (z / (cd z y)) i,fun w v=>af w v (y / (cd z y)) j,Dw t (i+j+2)]
def IQ:List Out:=[oD 0,⟨.agg [.s,.lit (.cb false)],[(0,0,1),(0,1,2)]⟩]
def IR:List Site:=[⟨74,[.fact 1],oF,false⟩,
   ⟨0,[.fact 2],[oN 3],.quiet (aD 59)⟩,
   ⟨0,[.fact 3,.lit (.ci .i64 1)],oF,.quiet (ai .eql)⟩,
   ⟨76,[.fact 0,.fact 1],[oD 4],false⟩,
   ⟨77,[.fact 0,.fact 4],[oD 5],false⟩,
   ⟨77,[.fact 1,.fact 4],[oD 6],false⟩]
theorem IS {z y:Int}{t:Rat}{i j n:Nat} (hk:i+j<=200000) (h0:0<y) (ht:aN z y=t) (hl:(ak 10000 y.natAbs).length=n) (hl1:n≠1)  : aj (ph (IP z y t i j n)) Try.prog ⟨47,[.fact 0,.fact 1],[⟨sS,[(0,0,7)]⟩],false⟩:=by
 have hp:0<y:=h0
 exact fm IQ [⟨.agg [.s,.b,.s,.b],[(0,2,5),(2,2,6)]⟩] IR Try.func47 (by kernel_rfl)
  (all_cons (fj dD (decide_eq_false (by omega)))
   (all_cons (oh (sz:=1) (n:=n) (F:=(cc y)) Try.underlying59 aa rfl)
   (all_cons (bi (op:=.eql) aa (fun t w=>by rw [<- show decide (((n:Nat):Int)=1)=false from decide_eq_false (by omega)];rfl))
   (all_cons (me (i+j) dD dD rfl (by omega) (by omega) (by omega) (ma hp).symm)
   (all_cons (gl dD dD rfl (by omega) (gj (by omega)) (LO _ _) rfl)
   (all_cons (gl dD dD rfl (by omega) (gj (by omega)) (LP _ _) rfl)
   all_nil))))))
  (aJ [.fact 0 (.agg [.s,.b]),.sub 1 (.agg [.s,.lit (.cb false)]) [(0,1,2)]] ⟨fun _ _ h=>af.is h,⟨fun _ _ h=>af.isA h (decide_eq_false (by omega)),fun _ _ h=>af.arr h (by omega) hl,trivial⟩,trivial⟩) (fI (halves fun _ _ hs h1 h2=>am.join hs (af.more (af.Li h1 (by rw [<- ht];exact vu h0)) (by omega)) (af.more (af.Li h2 (by rw [<- ht];exact vv h0)) (by omega))))
def IT (z y:Int) (t:Rat) (i j:Nat):List WP:=[fun w v=>af w v z i,fun w v=>af w v y j,fun w v=>af w v (-z) i,fun w v=>af w v (-y) j,Arr 1 (cc (-y)) 1,Ptr 1 ((cc (-y)) 0),Ni ((nth (ak 10000 (-y).natAbs) 0:Nat):Int),Dw t (i+j+2)]
def IU:List Out:=[oD 0,⟨.agg [.s,.lit (.cb true)],[(0,0,1)]⟩]
def IV:List Site:=[⟨74,[.fact 1],oF,false⟩,
   ⟨75,[.fact 0],[oD 2],false⟩,
   ⟨75,[.fact 1],[⟨.agg [.s,.lit (.cb false)],[(0,0,3),(0,1,4)]⟩],false⟩,
   ⟨0,[.fact 4],[oL (.ci .i64 1)],.quiet (aD 59)⟩,
   ⟨0,[.fact 4,.lit (.ci .i64 0)],[oP 5],.quiet (aI 59)⟩,
   ⟨0,[.fact 5],[oN 6],.quiet (aL 3)⟩,
   ⟨0,[.fact 6,.lit (.ci .i64 1)],oT,.quiet (ai .eql)⟩]
theorem IW {z y:Int}{t:Rat}{i j:Nat} (_hk:i+j<=200000) (h0:y<0) (ht:aN z y=t) (hl:(ak 10000 (-y).natAbs).length=1) (hd:nth (ak 10000 (-y).natAbs) 0=1):aj (ph (IT z y t i j)) Try.prog ⟨47,[.fact 0,.fact 1],[⟨sS,[(0,0,7)]⟩],false⟩:=by
 have hp:0 < -y:=by omega
 exact fm IU [⟨.agg [.s,.b,.s,.lit (.cb false)],[(0,2,2),(2,2,3)]⟩] IV Try.func47 (by kernel_rfl)
  (all_cons (fj dD (decide_eq_false (by omega)))
   (all_cons (pi dD rfl rfl)
   (all_cons (pf dD rfl rfl h0 hl)
   (all_cons (kx (n:=1) (sz:=1) (F:=(cc (-y))) rfl Try.underlying59 aa)
   (all_cons (fW (n:=1) (sz:=1) 0 (F:=(cc (-y))) Try.underlying59 (by kernel_rfl) aa rfl (by decide) rfl)
   (all_cons (kw (by kernel_rfl) aa rfl)
   (all_cons (bi (op:=.eql) aa (fun t w=>by rw [<- show decide (((nth (ak 10000 (-y).natAbs) 0:Nat):Int)=1)=true from decide_eq_true (by rw [hd];rfl)];rfl))
   all_nil)))))))
  (aJ [.fact 0 (.agg [.s,.b]),.fact 1 (.agg [.s,.lit (.cb true)])] ⟨fun _ _ h=>af.is h,fun _ _ h=>af.isA h (decide_eq_true (by omega)),trivial⟩) (fI (pg fun _ _ hs h1 h2=>am.join hs (af.more (af.Li h1 (by rw [<- ht];exact IA h0 hl hd)) (by omega)) (af.more (af.Li h2 (by rw [<- ht];exact IB h0 hl hd)) (by omega))))
def IX (z y:Int) (t:Rat) (i j:Nat):List WP:=[fun w v=>af w v z i,fun w v=>af w v y j,fun w v=>af w v (-z) i,fun w v=>af w v (-y) j,Arr 1 (cc (-y)) 1,Ptr 1 ((cc (-y)) 0),Ni ((nth (ak 10000 (-y).natAbs) 0:Nat):Int),fun w v=>af w v (cd (-z) (-y)) (i+j),fun w v=>af w v ((-z) / (cd (-z) (-y))) i,fun w v=>af w v ((-y) / (cd (-z) (-y))) j,Dw t (i+j+2)]
def IY:List Out:=[oD 0,⟨.agg [.s,.lit (.cb true)],[(0,0,1)]⟩]
def IZ:List Site:=[⟨74,[.fact 1],oF,false⟩,
   ⟨75,[.fact 0],[oD 2],false⟩,
   ⟨75,[.fact 1],[⟨.agg [.s,.lit (.cb false)],[(0,0,3),(0,1,4)]⟩],false⟩,
   ⟨0,[.fact 4],[oL (.ci .i64 1)],.quiet (aD 59)⟩,
   ⟨0,[.fact 4,.lit (.ci .i64 0)],[oP 5],.quiet (aI 59)⟩,
   ⟨0,[.fact 5],[oN 6],.quiet (aL 3)⟩,
   ⟨0,[.fact 6,.lit (.ci .i64 1)],oF,.quiet (ai .eql)⟩,
   ⟨76,[.fact 2,.fact 3],[oD 7],false⟩,
   ⟨77,[.fact 2,.fact 7],[oD 8],false⟩,
   ⟨77,[.fact 3,.fact 7],[oD 9],false⟩]
theorem OQ {z y:Int}{t:Rat}{i j:Nat} (hk:i+j<=200000) (h0:y<0) (ht:aN z y=t) (hl:(ak 10000 (-y).natAbs).length=1) (h1:nth (ak 10000 (-y).natAbs) 0≠1):aj (ph (IX z y t i j)) Try.prog ⟨47,[.fact 0,.fact 1],[⟨sS,[(0,0,10)]⟩],false⟩:=by
 have hp:0 < -y:=by omega
 exact fm IY [⟨.agg [.s,.b,.s,.b],[(0,2,8),(2,2,9)]⟩] IZ Try.func47 (by kernel_rfl)
  (all_cons (fj dD (decide_eq_false (by omega)))
   (all_cons (pi dD rfl rfl)
   (all_cons (pf dD rfl rfl h0 hl)
   (all_cons (kx (n:=1) (sz:=1) (F:=(cc (-y))) rfl Try.underlying59 aa)
   (all_cons (fW (n:=1) (sz:=1) 0 (F:=(cc (-y))) Try.underlying59 (by kernel_rfl) aa rfl (by decide) rfl)
   (all_cons (kw (by kernel_rfl) aa rfl)
   (all_cons (bi (op:=.eql) aa (fun t w=>by rw [<- show decide (((nth (ak 10000 (-y).natAbs) 0:Nat):Int)=1)=false from decide_eq_false (by omega)];rfl))
   (all_cons (me (i+j) dD dD rfl (by omega) (by omega) (by omega) (ma hp).symm)
   (all_cons (gl dD dD rfl (by omega) (gj (by omega)) (LO _ _) rfl)
   (all_cons (gl dD dD rfl (by omega) (gj (by omega)) (LP _ _) rfl)
   all_nil))))))))))
  (aJ [.fact 0 (.agg [.s,.b]),.fact 1 (.agg [.s,.lit (.cb true)])] ⟨fun _ _ h=>af.is h,fun _ _ h=>af.isA h (decide_eq_true (by omega)),trivial⟩) (fI (halves fun _ _ hs h1 h2=>am.join hs (af.more (af.Li h1 (by rw [<- ht];exact vw h0)) (by omega)) (af.more (af.Li h2 (by rw [<- ht];exact vz h0)) (by omega))))
def OR (z y:Int) (t:Rat) (i j n:Nat):List WP:=[fun w v=>af w v z i,fun w v=>af w v y j,fun w v=>af w v (-z) i,fun w v=>af w v (-y) j,Arr 1 (cc (-y)) n,Nz n,fun w v=>af w v (cd (-z) (-y)) (i+j),fun w v=>af w v ((-z) / (cd (-z) (-y))) i,fun w v=>af w v ((-y) / (cd (-z) (-y))) j,Dw t (i+j+2)]
def OS:List Out:=[oD 0,⟨.agg [.s,.lit (.cb true)],[(0,0,1)]⟩]
def OT:List Site:=[⟨74,[.fact 1],oF,false⟩,
   ⟨75,[.fact 0],[oD 2],false⟩,
   ⟨75,[.fact 1],[⟨.agg [.s,.lit (.cb false)],[(0,0,3),(0,1,4)]⟩],false⟩,
   ⟨0,[.fact 4],[oN 5],.quiet (aD 59)⟩,
   ⟨0,[.fact 5,.lit (.ci .i64 1)],oF,.quiet (ai .eql)⟩,
   ⟨76,[.fact 2,.fact 3],[oD 6],false⟩,
   ⟨77,[.fact 2,.fact 6],[oD 7],false⟩,
   ⟨77,[.fact 3,.fact 6],[oD 8],false⟩]
theorem OU {z y:Int}{t:Rat}{i j n:Nat} (hk:i+j<=200000) (h0:y<0) (ht:aN z y=t) (hl:(ak 10000 (-y).natAbs).length=n) (hl1:n≠1)  : aj (ph (OR z y t i j n)) Try.prog ⟨47,[.fact 0,.fact 1],[⟨sS,[(0,0,9)]⟩],false⟩:=by
 have hp:0 < -y:=by omega
 exact fm OS [⟨.agg [.s,.b,.s,.b],[(0,2,7),(2,2,8)]⟩] OT Try.func47 (by kernel_rfl)
  (all_cons (fj dD (decide_eq_false (by omega)))
   (all_cons (pi dD rfl rfl)
   (all_cons (pf dD rfl rfl h0 hl)
   (all_cons (oh (sz:=1) (n:=n) (F:=(cc (-y))) Try.underlying59 aa rfl)
   (all_cons (bi (op:=.eql) aa (fun t w=>by rw [<- show decide (((n:Nat):Int)=1)=false from decide_eq_false (by omega)];rfl))
   (all_cons (me (i+j) dD dD rfl (by omega) (by omega) (by omega) (ma hp).symm)
   (all_cons (gl dD dD rfl (by omega) (gj (by omega)) (LO _ _) rfl)
   (all_cons (gl dD dD rfl (by omega) (gj (by omega)) (LP _ _) rfl)
   all_nil))))))))
  (aJ [.fact 0 (.agg [.s,.b]),.fact 1 (.agg [.s,.lit (.cb true)])] ⟨fun _ _ h=>af.is h,fun _ _ h=>af.isA h (decide_eq_true (by omega)),trivial⟩) (fI (halves fun _ _ hs h1 h2=>am.join hs (af.more (af.Li h1 (by rw [<- ht];exact vw h0)) (by omega)) (af.more (af.Li h2 (by rw [<- ht];exact vz h0)) (by omega))))
end
end Go.Proofs.Ytomamliepbhegaa.Sym
namespace Go.Proofs.Ytomamliepbhegaa
theorem Sym.gZ {Φ:PH}{v u:Value}{z y:Int}{i j:Nat}{w:World} (h0:Φ 0=fun w v=>af w v z i) (h1:Φ 1=fun w v=>af w v y j) (hx:af w v z i) (hy:af w u y j):Sym.bN Φ (fun _=>False) w [.fact 0,.fact 1] [v,u]:=
 ⟨Sym.iX h0 (fun _ _ _ g h=>af.kp h g) hx,Sym.iX h1 (fun _ _ _ g h=>af.kp h g) hy,trivial⟩
theorem OV {v u:Value}{z y:Int}{t:Rat}{i j:Nat}{w:World} (hx:af w v z i) (hy:af w u y j) (hk:i+j<=200000) (ht:aN z y=t):Calls Try.prog 47 #[v,u] w (fH w t (i+j+2)):=by
 rcases Int.lt_trichotomy y 0 with h | h | h
 ·by_cases hl:(ak 10000 (-y).natAbs).length=1
  ·by_cases hd:nth (ak 10000 (-y).natAbs) 0=1
   ·exact Sym.fo (Sym.IW hk h ht hl hd) rfl (vs:=[v,u]) (Sym.gZ rfl rfl hx hy)
   ·exact Sym.fo (Sym.OQ hk h ht hl hd) rfl (vs:=[v,u]) (Sym.gZ rfl rfl hx hy)
  ·exact Sym.fo (Sym.OU hk h ht rfl hl) rfl (vs:=[v,u]) (Sym.gZ rfl rfl hx hy)
 ·exact Sym.fo (Sym.IF hk h ht) rfl (vs:=[v,u]) (Sym.gZ rfl rfl hx hy)
 ·by_cases hl:(ak 10000 y.natAbs).length=1
  ·by_cases hd:nth (ak 10000 y.natAbs) 0=1
   ·exact Sym.fo (Sym.IJ hk h ht hl hd) rfl (vs:=[v,u]) (Sym.gZ rfl rfl hx hy)
   ·exact Sym.fo (Sym.IN hk h ht hl hd) rfl (vs:=[v,u]) (Sym.gZ rfl rfl hx hy)
  ·exact Sym.fo (Sym.IS hk h ht rfl hl) rfl (vs:=[v,u]) (Sym.gZ rfl rfl hx hy)
end Go.Proofs.Ytomamliepbhegaa
namespace Go.Proofs.Ytomamliepbhegaa.Sym
open Go.RowKit
section
variable {Φ:PH}
theorem lZ {p q x x1 x2 i j:Nat}{z:Int}{y:Int}{t:Rat} (hp:∀w v,Φ p w v->af w v z i) (hq:∀w v,Φ q w v->af w v y j) (hx:Φ x=Dw t (i+j+2)) (hx1:Φ x1=fun w v=>af w v t.num (i+j+2)) (hx2:Φ x2=fun w v=>af w v (t.den:Int) (i+j+2)) (hk:i+j<=200000) (ht:aN z y=t):aj Φ Try.prog ⟨47,[.fact p,.fact q],[⟨sS,[(0,0,x),(0,2,x1),(2,2,x2)]⟩],false⟩:=
 Ld fun _ _ _ _ h0 h1=>(OV (hp _ _ (get h0)) (hq _ _ (get h1)) hk ht).mono fun _ _ h=>kh hx hx1 hx2 h
theorem vA {p x:Nat}{t z:Int} (hp:∀w v,Φ p w v->v = .int .i64 z) (hx:Φ x=fun w v=>af w v t 2) (h1 : -9223372036854775808<=z) (h2:z<=9223372036854775807) (ht:z=t):aj Φ Try.prog ⟨31,[.fact p],[⟨dS,[(0,0,x)]⟩],false⟩:=
 fl fun _ w v h0=>by
  obtain rfl:=hp _ _ (get h0)
  exact (Ml z h1 h2 ht).mono fun _ _ h=>gm hx h
def OZ (x y:Int) (t:Rat):List WP:=[Ni x,Ni y,fun w v=>af w v x 2,fun w v=>af w v y 2,Dw t (2+2+2),fun w v=>af w v t.num (2+2+2),fun w v=>af w v (t.den:Int) (2+2+2)]
def Ja:List Out:=[oN 0,oN 1]
def Jb:List Site:=[⟨31,[.fact 0],[oD 2],false⟩,
   ⟨31,[.fact 1],[oD 3],false⟩,
   ⟨47,[.fact 2,.fact 3],[⟨.agg [.s,.b,.s,.b],[(0,0,4),(0,2,5),(2,2,6)]⟩],false⟩]
theorem ofr {x y:Int}{t:Rat} (x1 : -9223372036854775808<=x) (x2:x<=9223372036854775807) (y1 : -9223372036854775808<=y) (y2:y<=9223372036854775807) (ht:aN x y=t):aj (ph (OZ x y t)) Try.prog ⟨52,[.fact 0,.fact 1],[oQ 4],false⟩:=
 fm Ja [oQ 4] Jb Try.func52 (by kernel_rfl)
  (all_cons (vA aa rfl x1 x2 rfl)
   (all_cons (vA aa rfl y1 y2 rfl)
   (all_cons (lZ dD dD rfl rfl rfl (by omega) ht)
   all_nil)))
  (aJ [.fact 0 (.one (.i)),.fact 1 (.one (.i))] ⟨fun _ _ h=>⟨⟨_,h⟩,fun _ e=>by rw [h] at e;cases e⟩,fun _ _ h=>⟨⟨_,h⟩,fun _ e=>by rw [h] at e;cases e⟩,trivial⟩) bg
theorem _root_.Go.Proofs.Ytomamliepbhegaa.uj (x y:Int){t:Rat}{w:World} (x1 : -9223372036854775808<=x) (x2:x<=9223372036854775807) (y1 : -9223372036854775808<=y) (y2:y<=9223372036854775807) (ht:aN x y=t):Calls Try.prog 52 #[.int .i64 x,.int .i64 y] w (fH w t 6):=by
 exact fo (ofr x1 x2 y1 y2 ht) rfl (vs:=[.int .i64 x,.int .i64 y]) ⟨fun _ _=>rfl,fun _ _=>rfl,trivial⟩
theorem _root_.Go.Proofs.Ytomamliepbhegaa.au.nor {w:World}{v:Value}{z:Int}{k:Nat} (h:au w v z k):ew w v z:=h.1
theorem FW {p q i j:Nat}{z y:Int}{r:Bool} (hp:∀w v,Φ p w v->af w v z i) (hq:∀w v,Φ q w v->au w v y j) (hk:i<=1000000) (he:z=y) (hr:true=r):aj Φ Try.prog ⟨29,[.fact p,.fact q],[oL (.cb r)],false⟩:=
 Ld fun _ _ _ _ h0 h1=>(hr▸Ik (hp _ _ (get h0)) hk (he▸(hq _ _ (get h1)).1)).mono fun _ _ h=>vB h
theorem cJ.fst {w:World}{v:Value}{q:Rat}{k:Nat} (h:cJ w v q k):au w (bh 0 2 v) q.num k:=by obtain ⟨_,_,_,_,_,_,_,_,rfl,h1,_⟩:=h;exact h1
theorem cJ.snd {w:World}{v:Value}{q:Rat}{k:Nat} (h:cJ w v q k):au w (bh 2 2 v) (q.den:Int) k:=by obtain ⟨_,_,_,_,_,_,_,_,rfl,_,h2⟩:=h;exact h2
theorem _root_.Go.Proofs.Ytomamliepbhegaa.Jm {w:World}{p:Option Addr}{cap k m:Nat}{xs:List Nat} (hx:Sl w .u32 (.slice p xs.length cap) xs) (hm:(xs.take k).length=m):Sl w .u32 (.slice p m cap) (xs.take k):=by
 have:=hx.take (min xs.length k) (Nat.min_le_left _ _)
 rw [show xs.take (min xs.length k)=xs.take k by
  rcases Nat.le_total xs.length k with h | h
  ·rw [Nat.min_eq_left h,List.take_length,List.take_of_length_le h]
  ·rw [Nat.min_eq_right h]] at this
 rw [<- hm,List.length_take,Nat.min_comm]
 exact this
theorem KR.i {w:World}{v:Value}{b:Bool}{xs:List Nat} (k:Nat) (h:KR w v b xs) (hk:xs.length<=k):aB w v (sg b (Proofs.Ytomamliepbhegaa.val 4294967296 xs)) k:=by
 obtain ⟨s,rfl,h1,h2⟩:=h
 exact ⟨_,_,_,rfl,Num.row h1 h2 k hk,rfl⟩
theorem Jn {p x x':Nat} (k:Nat){ki z:Int}{b:Bool}{xs:List Nat} (hki:(k:Int)=ki) (hp:∀w v,Φ p w v->KR w v b xs) (hx:Φ x=fun w v=>KR w v b (xs.take k)) (hx':Φ x'=Iw z k) (hz:sg b (Proofs.Ytomamliepbhegaa.val 4294967296 (xs.take k))=z):aj Φ Try.prog ⟨38,[.fact p,.lit (.ci .i64 ki)],[⟨iS,[(0,0,x),(0,0,x')]⟩],false⟩:=
 Ld fun _ w v u h0 h1=>by
  subst hki
  obtain rfl:u = .int .i64 k:=h1
  obtain ⟨s,rfl,a1,a2⟩:=hp _ _ (get h0)
  obtain ⟨p,c,rfl,c1,-⟩:=id a1
  obtain ⟨m,hm⟩:∃m,(xs.take k).length=m:=⟨_,rfl⟩
  refine (Im k c1 hm).mono fun e w' ⟨he,g⟩=>⟨g,[_],he,⟨kg,fun q hq w1 hw=>?_⟩,trivial⟩
  have r:KR w1 (.agg #[.bool b,.slice p m c]) b (xs.take k):=KR.kp ⟨_,rfl,(Jm a1 hm).kp (Kp.of g),a2.take k⟩ hw.1
  simp only [List.mem_cons,List.not_mem_nil,or_false] at hq
  rcases hq with rfl | rfl
  ·show Φ x w1 _;rw [hx];exact r
  ·show Φ x' w1 _;rw [hx'];exact hz▸KR.i k r (by rw [List.length_take];omega)
theorem eT.fst {w:World}{v:Value}{b b':Bool}{xs ys:List Nat} (h:eT w v b xs b' ys):KR w (bh 0 2 v) b xs:=by obtain ⟨s,s',rfl,h1,h2,h3,h4⟩:=h;exact ⟨_,rfl,h1,h2⟩
theorem eT.snd {w:World}{v:Value}{b b':Bool}{xs ys:List Nat} (h:eT w v b xs b' ys):KR w (bh 2 2 v) b' ys:=by obtain ⟨s,s',rfl,h1,h2,h3,h4⟩:=h;exact ⟨_,rfl,h3,h4⟩
theorem eT.join {w:World}{v:Value}{b b':Bool}{xs ys:List Nat} (hs:qS.is v) (h1:KR w (bh 0 2 v) b xs) (h2:KR w (bh 2 2 v) b' ys):eT w v b xs b' ys:=by
 obtain ⟨vs,rfl,h⟩:=hs
 match vs,h with
 | [v0,v1,v2,v3],h=>
  obtain ⟨s,e,a1,a2⟩:=h1
  obtain ⟨s',e',a3,a4⟩:=h2
  have e1:(Value.agg #[v0,v1]) = .agg #[.bool b,s]:=e
  have e2:(Value.agg #[v2,v3]) = .agg #[.bool b',s']:=e'
  simp only [Value.agg.injEq,Array.mk.injEq,List.cons.injEq,and_true] at e1 e2
  obtain ⟨rfl,rfl⟩:=e1
  obtain ⟨rfl,rfl⟩:=e2
  exact ⟨_,_,rfl,a1,a2,a3,a4⟩
theorem Fd {p q x x':Nat} (k:Nat){z:Int}{b:Bool}{xs:List Nat} (hp:∀w v,Φ p w v->KR w v b xs) (hq:∀w v,Φ q w v->v = .int .i64 (k:Int)) (hx:Φ x=fun w v=>KR w v b (xs.take k)) (hx':Φ x'=Iw z k) (hz:sg b (Proofs.Ytomamliepbhegaa.val 4294967296 (xs.take k))=z):aj Φ Try.prog ⟨38,[.fact p,.fact q],[⟨iS,[(0,0,x),(0,0,x')]⟩],false⟩:=fun X w vs hX ha=>by
 match vs,ha with
 | [v,u],ha=>
  exact Jn k rfl hp hx hx' hz X w [v,u] hX ⟨ha.1,hq _ _ (get ha.2.1),trivial⟩
def mf (w:World) (v:Value) (xs:List Nat):Prop:=Sl w .u32 v xs∧All 4294967296 xs
theorem mf.kp {w w':World}{v:Value}{xs:List Nat} (h:mf w v xs) (g:Kp w w'):mf w' v xs:=⟨h.1.kp g,h.2⟩
theorem KR.sl {w:World}{v:Value}{b:Bool}{xs:List Nat} (h:KR w v b xs):mf w (bh 1 1 v) xs:=by obtain ⟨s,rfl,h1,h2⟩:=h;exact ⟨h1,h2⟩
end
end Go.Proofs.Ytomamliepbhegaa.Sym
