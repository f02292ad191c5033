/- Ratio's functions by the -/
import Derived.Test.YtlmanbjkkjfjgaaGreatPolB
set_option maxRecDepth 100000
namespace Go.Proofs.YtlmanbjkkjfjgaaGreat.Sym
open Go.Proofs.Tryz
open Go.RowKit
variable {w:World}{v:Value}{b:Bool}{y z:Int}{k:Nat}
section
variable {Φ:PH}
def QVb (w:World) (v:Value) (b:Bool) (z y:Int) (k:Nat):Prop:=∃s b' s',v = .agg #[.bool b,s,.bool b',s']∧Num w s z.natAbs k∧z=sg b z.natAbs∧aD w (.agg #[.bool b',s']) y k
theorem QVb.kp {w':World} (h:QVb w v b z y k) (g:Kp w w'):QVb w' v b z y k:=by obtain ⟨s,b',s',h1,h2,h3,h4⟩:=h;exact ⟨s,b',s',h1,h2.kp g,h3,h4.kp g⟩
theorem QV.vb  (h:QV w v z y k):∃b,QVb w v b z y k:=by
 obtain ⟨b,p,n,c,b',p',n',c',rfl,h1,h2⟩:=h;obtain ⟨b1,s1,X,e,h3,h4⟩:=h1;simp only [Value.agg.injEq,Array.mk.injEq,List.cons.injEq,Value.bool.injEq,and_true] at e;obtain ⟨rfl,rfl⟩:=e;have e2:z.natAbs=X:=by rw [h4];exact eO _ _
 exact ⟨b,_,b',_,rfl,by rw [e2];exact h3,by rw [e2];exact h4,h2⟩
theorem QVb.is  (h:QVb w v b z y k):(cC.agg [.lit (.cb b),.s,.b,.s]).is v:=by obtain ⟨s,b',s',rfl,h1,h2,h3⟩:=h;obtain ⟨p,n,c,rfl⟩:=h1.slice;obtain ⟨b2,p',n',c',e,h3⟩:=h3.open;simp only [Value.agg.injEq,Array.mk.injEq,List.cons.injEq,Value.bool.injEq,and_true] at e;obtain ⟨rfl,rfl⟩:=e;exact ⟨[_,_,_,_],rfl,rfl,⟨_,_,_,rfl⟩,⟨_,rfl⟩,⟨_,_,_,rfl⟩,trivial⟩
theorem QVb.num  (h:QVb w v b z y k):Num w (bS 1 1 v) z.natAbs k:=by obtain ⟨s,b',s',rfl,h1,h2,h3⟩:=h;exact h1
theorem QVb.snd  (h:QVb w v b z y k):aD w (bS 2 2 v) y k:=by obtain ⟨s,b',s',rfl,h1,h2,h3⟩:=h;exact h3
theorem _root_.Go.Proofs.YtlmanbjkkjfjgaaGreat.agd {n d m e:Int} (hd:0<d) (he:0<e):cK (n*e) (m*d)=mf (Rat.divInt n d) (Rat.divInt m e):=by unfold cK mf;simp only [aeq hd he,aer hd he]
end
end Go.Proofs.YtlmanbjkkjfjgaaGreat.Sym
namespace Go.Proofs.YtlmanbjkkjfjgaaGreat
open Go.Proofs.Tryz
open Go.RowKit
variable {w:World}{X c cap j k n:Nat}{p:Option Addr}{y z:Int}{b:Bool}
theorem age {c:Bool} (b:Bool) (h:db w (.slice p n cap) X k) (hn:n=(an 10000 X).length) (hz:z=sg b X) (hc:c=(b && decide (0<n))):ai w (.agg #[.slice p n cap,.bool c]) z k:=by
 subst hn hz hc;refine ⟨p,cap,?_,?_⟩
 ·rw [pc,eO,nj _ _]
 ·rw [eO];exact h
theorem ai.flag  (h:ai w (.agg #[.slice p n c,.bool b]) z k):b=decide (z<0)∧n=(an 10000 z.natAbs).length:=by obtain ⟨p',c',e,-⟩:=h;simp only [Value.agg.injEq,Array.mk.injEq,List.cons.injEq,Value.bool.injEq,Value.slice.injEq,and_true] at e;exact ⟨e.2,e.1.2.1⟩
def Cel (w:World) (blk off:Nat) (x:Int):Prop:=w.cell? ⟨blk,off,none⟩=some (.int .i64 x)
theorem Cel.kp {w':World}{blk off:Nat}{x:Int} (h:Cel w blk off x) (g:Kp w w'):Cel w' blk off x:=g.2 _ _ _ (by decide) h
theorem Kz  (h:(an 10000 X).length=1):0<X∧X<10000:=by
 have h1:=jm (b:=10000) X;rw [h] at h1;refine ⟨?_,by omega⟩;rcases Nat.eq_zero_or_pos X with rfl | h2
 ·have:=(gy (b:=10000) (n:=0)).2 rfl;omega
 ·exact h2
theorem ai.one  (h:ai w (.agg #[.slice p 1 c,.bool b]) z k):∃blk off,p=some ⟨blk,off,none⟩∧Cel w blk off (z.natAbs:Nat):=by
 obtain ⟨-,hn⟩:=h.flag;obtain ⟨p',c',e,h2⟩:=h;simp only [Value.agg.injEq,Array.mk.injEq,List.cons.injEq,Value.bool.injEq,Value.slice.injEq,and_true] at e;obtain ⟨⟨rfl,-,rfl⟩,-⟩:=e;obtain ⟨q,c2,e2,-,-,h3⟩:=h2.1;simp only [Value.slice.injEq,true_and] at e2;obtain ⟨rfl,rfl⟩:=e2;have hx:=Kz hn.symm;rcases h3 with h3 | ⟨blk,off,rfl,-,h3⟩
 ·rw [h3] at hn;cases hn
 ·refine ⟨blk,off,rfl,?_⟩;have:=h3 0 (by omega);rw [zj hx.1 hx.2] at this;exact this
theorem zA (z:Int):(Rat.divInt z 1).num=z:=by rw [Rat.num_divInt];simp
theorem zB (z:Int):((Rat.divInt z 1).den:Int)=1:=by rw [Rat.den_divInt];simp
theorem uF  (h:0<y):dO z y=(Int.gcd z y:Int):=by rw [dO,if_neg (by omega)]
set_option maxHeartbeats 4000000 in
theorem agf {b':Bool}{q:Option Addr}{m cap' Y i:Nat} (hx:db w (.slice p n cap) X i) (hy:db w (.slice q m cap') Y j) (hi:i+j<=900000) (hY:0<Y) :
  Calls prog 85 #[.agg #[.slice p n cap,.bool b],.agg #[.slice q m cap',.bool b']] w (ia w (sg (b != b') (X / Y)) i):=by
 have Hx:=Lib.hid hx;have Hy:=Lib.hid hy;have S0:Kept w [(w.heap.size+1,0,(.slice q m cap')),(w.heap.size+1,1,(.bool b')),(w.heap.size,0,(.slice p n cap)),(w.heap.size,1,(.bool b))] [w.heap.size+1+1] (((w.alloc (.cells #[.slice p n cap,.bool b] 55)).alloc (.cells #[.slice q m cap',.bool b'] 55)).alloc (.cells #[.slice none 0 0,.bool false] 55)):=(((Kept.start w).box _ _ _ _ rfl).box _ _ _ _ (by simp)).res _ _ _ _ _ (by simp);clear hx hy;go_enter func85,ntmps85
 go_wp2_with fail
 refine (EQ (Hx.out.grown (Kept.all _ _ S0)) (Hy.out.grown (Kept.all _ _ S0)) (by omega) hY).mono ?_;rintro e w1 ⟨vq,vr,rfl,hq,hr,bq,br,hg⟩;obtain ⟨pq,cq,rfl⟩:=hq.slice;obtain ⟨pr,cr,rfl⟩:=hr.slice;have Hq:=Lib.hid hq;have Bq:=Lib.hid bq;replace S0:=Kept.grown _ _ S0 hg;have s2:=S0.lt (g:=w.heap.size+1+1) (by simp);clear hg hq hr bq br;obtain ⟨l,hl⟩:∃l,(an 10000 (X / Y)).length=l:=⟨_,rfl⟩;rw [hl] at Hq;rw [hl];have Hl:=Lib.hid hl;clear hl;obtain ⟨c0,c1,c2,c3,r0,r1,f0,f1,G⟩:=id S0;go_wp2_with fail
 refine (iY _ _ _ _ _).mono ?_;rintro e w2 ⟨rfl,hg⟩;replace S0:=Kept.grown _ _ S0 hg;replace Hq:=Lib.hid (Hq.out.grown hg (.inl rfl));clear hg c0 c1 c2 c3 r0 r1 f0 f1 G;obtain ⟨c0,c1,c2,c3,r0,r1,f0,f1,G⟩:=id S0;go_wp2_with fail
 have G2:=Kept.all _ _ (Kept.set (g:=w.heap.size+1+1) (u:=.slice pq l cq) (v:=.bool ((b != b') && decide (0<l))) _ _ (by simp <;> omega) (by omega) S0);refine afl results85 rfl rfl (eQ r0) (eR r1) (ia.mk (age (b != b') (X:=X / Y) ?_ Hl.out.symm rfl rfl) G2);exact ⟨(Hq.out.grown (iR _ _ _ _) (own_ne Hq.out (by first | omega | (simp <;> omega)))).sl,Bq.out⟩
set_option maxHeartbeats 4000000 in
theorem agh {v u:Value}{t:Int}{i:Nat} (hx:ai w v z i) (hy:ai w u y j) (hi:i+j<=900000) (h0:y≠0) (hd:y∣z) (ht:z / y=t) :
  Calls prog 85 #[v,u] w (ia w t i):=by
 subst ht;obtain ⟨b,p,n,cap,X,rfl,dx,rfl⟩:=hx.open;obtain ⟨b',q,m,cap',Y,rfl,dy,rfl⟩:=hy.open;have hY:Y≠0:=by rintro rfl;exact h0 (by cases b' <;> rfl)
 have hR:X % Y=0:=by have:=Int.natAbs_dvd_natAbs.2 hd;rw [eO,eO] at this;exact Nat.mod_eq_zero_of_dvd this
 rw [(xB (b:=b) (b':=b') hY (.inr hR)).1];exact agf dx dy hi (Nat.pos_of_ne_zero hY)
end Go.Proofs.YtlmanbjkkjfjgaaGreat
namespace Go.Proofs.YtlmanbjkkjfjgaaGreat.Sym
open Go.Proofs.Tryz
open Go.RowKit
variable {w:World}{v:Value}{y:Int}{b:Bool}
def dP (y:Int) (i:Nat) (_:World) (v:Value):Prop:=v = .agg #[.int .i64 ((nth (an 10000 y.natAbs) i:Nat):Int)]
theorem ai.arr {k n:Nat} (h:ai w v y k) (h0:y≠0) (hl:(an 10000 y.natAbs).length=n):Arr 1 (dP y) n w (bS 0 1 v):=by
 subst hl;obtain ⟨p,c,rfl,h2⟩:=h;obtain ⟨q,c2,e2,-,-,h3⟩:=h2.1;simp only [Value.slice.injEq,true_and] at e2;obtain ⟨rfl,rfl⟩:=e2;rcases h3 with h3 | ⟨b,off,rfl,-,h3⟩
 ·have:=(gy (b:=10000) (n:=y.natAbs)).1 (by rw [h3];rfl);omega
 ·refine ⟨_,_,rfl,λi hi=>⟨b,off,rfl,[.int .i64 ((nth (an 10000 y.natAbs) i:Nat):Int)],rfl,λj u hj=>?_,rfl⟩⟩;have h4:=h3 i hi
  match j,hj with
  | 0,hj=>
   simp only [List.getElem?_cons_zero,Option.some.injEq] at hj;subst hj;rw [Nat.mul_one,Nat.add_zero];exact h4
theorem ai.isA {k:Nat} (h:ai w v y k) (hb:decide (y<0)=b):(cC.agg [.s,.lit (.cb b)]).is v:=by obtain ⟨p,c,rfl,-⟩:=h;exact ⟨_,rfl,⟨_,_,_,rfl⟩,by rw [hb];rfl,trivial⟩
section
variable {P:Program}{Φ:PH}{X:Nat->Prop}{p q x x2 i j n:Nat}{z t:Int}{w':World}{e:Ending}
theorem agi {sh:cC}{u:Value}{G:WP} (hs:sh.is u) (hx:Φ x=G) (h:∀w1,Off X w w1->G w1 u):cG Φ X w [⟨sh,[(0,0,x)]⟩] [u]:=⟨⟨hs,λ_ hr w1 hw=>by
 simp only [List.mem_singleton] at hr;subst hr;show Φ x w1 _;rw [hx];exact h w1 hw⟩,trivial⟩
theorem rD {T:TypeId} (hp:Im Φ p (Ptr 1 (dP y 0))) (hx:Φ x=Ni ((nth (an 10000 y.natAbs) 0:Nat):Int)) (hT:gV P T=some false:=by kernel_rfl):aj Φ P ⟨0,[.fact p],[oN x],.quiet (aQ T)⟩:=λX w ac o xs _ hm ha=>by
 unfold aQ at hm;split at hm
 case h_2=>cases hm
 rename_i t y ho;split at hm
 case isFalse=>cases hm
 rename_i ht;subst ht;simp only [Option.some.injEq] at hm;subst hm;obtain ⟨b,off,hv,l,h1,h2,h3⟩:=hp _ _ (ha.1 w (Off.refl _ _));have h3:Value.agg l.toArray = .agg #[.int .i64 _]:=h3;obtain rfl:l = [.int .i64 _]:=by simpa using h3
 have hc:=h2 0 _ rfl;refine ⟨.int .i64 _,w,?_,bH w none,agi ⟨⟨_,rfl⟩,λ_ h=>by cases h⟩ hx λ_ _=>rfl⟩;rw [Nat.add_zero] at hc;unfold execOp;simp [ho,hv,Instr.loadAt,Instr.sureAddr,loadVar,gW hT,hc]
theorem KA (hx:Φ x=Jw t i) (hx2:Φ x2=Arr 1 (dP t) n) (h0:0<t) (hl:(an 10000 t.natAbs).length=n) (h:ia w t i e w'):post Φ X [⟨.agg [.s,.lit (.cb false)],[(0,0,x),(0,1,x2)]⟩] false w e w':=by
 obtain ⟨s,m,c,b,rfl,h1,h2⟩:=h;obtain rfl:b=false:=h1.flag.1.trans (decide_eq_false (by omega));refine ⟨h2,[_],rfl,⟨⟨_,rfl,⟨_,_,_,rfl⟩,rfl,trivial⟩,λq hq w1 hw=>?_⟩,trivial⟩;have h':=ai.kp h1 hw.1;simp only [List.mem_cons,List.not_mem_nil,or_false] at hq;rcases hq with rfl | rfl
 ·show Φ x w1 _;rw [hx];exact h'
 ·show Φ x2 w1 _;rw [hx2];exact ai.arr h' (by omega) hl
theorem zC (hp:Im Φ p (Jw z i)) (hx:Φ x=Jw (-z) i) (hx2:Φ x2=Arr 1 (dP (-z)) n) (h0:z<0) (hl:(an 10000 (-z).natAbs).length=n):aj Φ prog ⟨83,[.fact p],[⟨.agg [.s,.lit (.cb false)],[(0,0,x),(0,1,x2)]⟩],false⟩:=
 gC λ_ _ _ h1=>(Kf (hp _ _ (get h1)) rfl).mono λ_ _ h=>KA hx hx2 (by omega) hl h
theorem agj (hx:Φ x=Jw 1 2) (hx2:Φ x2=Arr 1 (dP 1) 1):aj Φ prog ⟨24,[.lit (Ai 1)],[⟨.agg [.s,.lit (.cb false)],[(0,0,x),(0,1,x2)]⟩],false⟩:=
 gC λ_ _ v h1=>by obtain rfl:v = .int .i64 1:=h1;exact (zt 1 (by decide) (by decide) rfl).mono λ_ _ h=>KA hx hx2 (by decide) (by decide +kernel) h
theorem gi (hp:Im Φ p (Jw z i)) (hq:Im Φ q (Jw y j)) (hx:Φ x=Jw t i) (h0':y≠0) (h1':y∣z) (ht:z / y=t) (hi:i+j<=900000:=by omega):aj Φ prog ⟨85,[.fact p,.fact q],[⟨dS,[(0,0,x)]⟩],false⟩:=
 fe λ_ _ _ _ h0 h1=>(agh (hp _ _ (get h0)) (hq _ _ (get h1)) hi h0' h1' ht).mono λ_ _ h=>mt hx h
theorem zD {p1 p2:Nat} (h:∀w v,sS.is v->Φ p1 w (bS 0 2 v)->Φ p2 w (bS 2 2 v)->Φ x w v) (X:Nat->Prop) (w:World) (v:Value) (hv:(cC.agg [.s,.b,.s,.lit (.cb b)]).is v∧∀q,q ∈ [(0,2,p1),(2,2,p2)]->∀w1,Off X w w1->Φ q.2.2 w1 (bS q.1 q.2.1 v)):sS.is v∧∀q,q ∈ [(0,0,x)]->∀w1,Off X w w1->Φ q.2.2 w1 (bS q.1 q.2.1 v):=by
 have hs:sS.is v:=by
  obtain ⟨vs,rfl,h⟩:=hv.1
  match vs,h with
  | [v0,v1,v2,v3],h=>
   obtain ⟨h0,h1,h2,h3,_⟩:=h;exact ⟨_,rfl,h0,h1,h2,⟨_,h3⟩,trivial⟩
 exact ⟨hs,λ_ hq w1 hw=>by
  simp only [List.mem_singleton] at hq;subst hq;exact h w1 _ hs (hv.2 (0,2,p1) (by simp) w1 hw) (hv.2 (2,2,p2) (by simp) w1 hw)⟩
theorem agk {m:Nat} (hl:(an 10000 m).length=1):nth (an 10000 m) 0=m:=by have h:=Kz hl;rw [zj h.1 h.2];rfl
theorem KB (h0:y=0):aH z y=Rat.divInt z 1:=by rw [aH,if_pos h0]
theorem uG (h0:y<0):aH z y=Rat.divInt (-z) (-y):=by rw [iN (by omega),Rat.neg_divInt_neg]
theorem agl (h0:y=0):z=(aH z y).num:=by rw [KB h0,zA]
theorem agm (h0:y=0):(1:Int)=((aH z y).den:Int):=by rw [KB h0,zB]
theorem uH (h0:0<y) (hl:(an 10000 y.natAbs).length=1) (hd:nth (an 10000 y.natAbs) 0=1):y=1:=by rw [agk hl] at hd;omega
theorem agn (h0:0<y) (hl:(an 10000 y.natAbs).length=1) (hd:nth (an 10000 y.natAbs) 0=1):z=(aH z y).num:=by rw [uH h0 hl hd,iN (by decide),zA]
theorem ago (h0:0<y) (hl:(an 10000 y.natAbs).length=1) (hd:nth (an 10000 y.natAbs) 0=1):y=((aH z y).den:Int):=by rw [uH h0 hl hd,iN (by decide),zB]
theorem agp (h0:y<0) (hl:(an 10000 (-y).natAbs).length=1) (hd:nth (an 10000 (-y).natAbs) 0=1) : -z=(aH z y).num:=by rw [uG h0,uH (by omega) hl hd,zA]
theorem agq (h0:y<0) (hl:(an 10000 (-y).natAbs).length=1) (hd:nth (an 10000 (-y).natAbs) 0=1) : -y=((aH z y).den:Int):=by rw [uG h0,uH (by omega) hl hd,zB]
theorem KC (h0:0<y):z / dO z y=(aH z y).num:=by rw [iN (by omega)];exact zm
theorem KD (h0:0<y):y / dO z y=((aH z y).den:Int):=by rw [iN (by omega)];exact zn
theorem KE (h0:y<0) : -z / dO (-z) (-y)=(aH z y).num:=by rw [uG h0];exact zm
theorem KF (h0:y<0) : -y / dO (-z) (-y)=((aH z y).den:Int):=by rw [uG h0];exact zn
def agr (z y:Int) (t:Rat) (i j:Nat):List WP:=[Jw z i,Jw y j,Jw 1 2,Arr 1 (dP (1:Int)) 1,Ptr 1 ((dP (1:Int)) 0),Ni ((nth (an 10000 (1:Int).natAbs) 0:Nat):Int),Dw t (i+j+2)]
def ags:List Out:=[oD 0,oD 1]
def agt:List Step:=[cB 28 [1] oT,
   cB 24 [.lit (Ai 1)] [⟨.agg [.s,.lit (.cb false)],[(0,0,2),(0,1,3)]⟩],bQ [3] [oL (Ai 1)] (aC 53),bQ [3,.lit (Ai 0)] [oP 4] (adK 53),bQ [4] [oN 5] (aQ 3),bQ [5,.lit (Ai 1)] oT (am .eql)]
theorem agu {t:Rat}{i:Nat} (_hk:i+j<=200000) (h0:y=0) (ht:aH z y=t):aj (ph (agr z y t i j)) prog ⟨53,[0,1],[⟨sS,[(0,0,6)]⟩],false⟩:=adL ags [⟨.agg [.s,.b,.s,.lit (.cb false)],[(0,2,0),(2,2,2)]⟩] agt func53 (by kernel_rfl) (lB (gh dD (decide_eq_true h0)) (lB (agj rfl rfl) (lB (mn (n:=1) (sz:=1) (F:=(dP (1:Int))) rfl underlying53 ad) (lB (eg (n:=1) (sz:=1) 0 (F:=(dP (1:Int))) underlying53 ad rfl (hi:=(by decide)) rfl) (lB (rD ad rfl) (lB (cn (op:=.eql) ad (λ_ _=>by rw [<- show decide (((nth (an 10000 (1:Int).natAbs) 0:Nat):Int)=1)=true from (by decide +kernel)];rfl)) au))))))
  (aP [.fact 0 (.agg [.s,.b]),.fact 1 (.agg [.s,.b])] ⟨λ_ _ h=>ai.is h,λ_ _ h=>ai.is h,trivial⟩) (jx (zD λ_ _ hs h1 h2=>ah.join hs (ai.more (ai.eI h1 (by rw [<- ht];exact agl h0)) (by omega)) (ai.more (ai.eI h2 (by rw [<- ht];exact agm h0)) (by omega))))
def agv (z y:Int) (t:Rat) (i j:Nat):List WP:=[Jw z i,Jw y j,Arr 1 (dP y) 1,Ptr 1 ((dP y) 0),Ni ((nth (an 10000 y.natAbs) 0:Nat):Int),Dw t (i+j+2)]
def agw:List Out:=[oD 0,⟨.agg [.s,.lit (.cb false)],[(0,0,1),(0,1,2)]⟩]
def agx:List Step:=[cB 28 [1] oF,bQ [2] [oL (Ai 1)] (aC 53),bQ [2,.lit (Ai 0)] [oP 3] (adK 53),bQ [3] [oN 4] (aQ 3),bQ [4,.lit (Ai 1)] oT (am .eql)]
theorem agy {t:Rat}{i:Nat} (_hk:i+j<=200000) (h0:0<y) (ht:aH z y=t) (hl:(an 10000 y.natAbs).length=1) (hd:nth (an 10000 y.natAbs) 0=1):aj (ph (agv z y t i j)) prog ⟨53,[0,1],[⟨sS,[(0,0,5)]⟩],false⟩:=by
 have hp:0<y:=h0;exact adL agw [⟨.agg [.s,.b,.s,.lit (.cb false)],[(0,2,0),(2,2,1)]⟩] agx func53 (by kernel_rfl) (lB (gh dD (decide_eq_false (by omega))) (lB (mn (n:=1) (sz:=1) (F:=(dP y)) rfl underlying53 ad) (lB (eg (n:=1) (sz:=1) 0 (F:=(dP y)) underlying53 ad rfl (hi:=(by decide)) rfl) (lB (rD ad rfl) (lB (cn (op:=.eql) ad (λ_ _=>by rw [<- show decide (((nth (an 10000 y.natAbs) 0:Nat):Int)=1)=true from decide_eq_true (by rw [hd];rfl)];rfl)) au)))))
  (aP [.fact 0 (.agg [.s,.b]),.sub 1 (.agg [.s,.lit (.cb false)]) [(0,1,2)]] ⟨λ_ _ h=>ai.is h,⟨λ_ _ h=>ai.isA h (decide_eq_false (by omega)),λ_ _ h=>ai.arr h (by omega) hl,trivial⟩,trivial⟩) (jx (zD λ_ _ hs h1 h2=>ah.join hs (ai.more (ai.eI h1 (by rw [<- ht];exact agn h0 hl hd)) (by omega)) (ai.more (ai.eI h2 (by rw [<- ht];exact ago h0 hl hd)) (by omega))))
def agz (z y:Int) (t:Rat) (i j:Nat):List WP:=[Jw z i,Jw y j,Arr 1 (dP y) 1,Ptr 1 ((dP y) 0),Ni ((nth (an 10000 y.natAbs) 0:Nat):Int),Jw (dO z y) (i+j),Jw (z / (dO z y)) i,Jw (y / (dO z y)) j,Dw t (i+j+2)]
def agA:List Out:=[oD 0,⟨.agg [.s,.lit (.cb false)],[(0,0,1),(0,1,2)]⟩]
def agB:List Step:=[cB 28 [1] oF,bQ [2] [oL (Ai 1)] (aC 53),bQ [2,.lit (Ai 0)] [oP 3] (adK 53),bQ [3] [oN 4] (aQ 3),bQ [4,.lit (Ai 1)] oF (am .eql),
   cB 84 [0,1] [oD 5],
   cB 85 [0,5] [oD 6],
   cB 85 [1,5] [oD 7]]
theorem agC {t:Rat}{i:Nat} (hk:i+j<=200000) (h0:0<y) (ht:aH z y=t) (hl:(an 10000 y.natAbs).length=1) (h1:nth (an 10000 y.natAbs) 0≠1):aj (ph (agz z y t i j)) prog ⟨53,[0,1],[⟨sS,[(0,0,8)]⟩],false⟩:=by
 have hp:0<y:=h0;exact adL agA [⟨.agg [.s,.b,.s,.b],[(0,2,6),(2,2,7)]⟩] agB func53 (by kernel_rfl) (lB (gh dD (decide_eq_false (by omega))) (lB (mn (n:=1) (sz:=1) (F:=(dP y)) rfl underlying53 ad) (lB (eg (n:=1) (sz:=1) 0 (F:=(dP y)) underlying53 ad rfl (hi:=(by decide)) rfl) (lB (rD ad rfl) (lB (cn (op:=.eql) ad (λ_ _=>by rw [<- show decide (((nth (an 10000 y.natAbs) 0:Nat):Int)=1)=false from decide_eq_false (by omega)];rfl)) (lB (ik (i+j) dD dD rfl (uF hp).symm) (lB (gi dD dD rfl (mp) (ux _ _) rfl) (lB (gi dD dD rfl (mp) (uy _ _) rfl) au))))))))
  (aP [.fact 0 (.agg [.s,.b]),.sub 1 (.agg [.s,.lit (.cb false)]) [(0,1,2)]] ⟨λ_ _ h=>ai.is h,⟨λ_ _ h=>ai.isA h (decide_eq_false (by omega)),λ_ _ h=>ai.arr h (by omega) hl,trivial⟩,trivial⟩) (jx (halves λ_ _ hs h1 h2=>ah.join hs (ai.more (ai.eI h1 (by rw [<- ht];exact KC h0)) (by omega)) (ai.more (ai.eI h2 (by rw [<- ht];exact KD h0)) (by omega))))
def agD (z y:Int) (t:Rat) (i j n:Nat):List WP:=[Jw z i,Jw y j,Arr 1 (dP y) n,Nz n,Jw (dO z y) (i+j),Jw (z / (dO z y)) i,Jw (y / (dO z y)) j,Dw t (i+j+2)]
def agE:List Out:=[oD 0,⟨.agg [.s,.lit (.cb false)],[(0,0,1),(0,1,2)]⟩]
def agF:List Step:=[cB 28 [1] oF,bQ [2] [oN 3] (aC 53),bQ [3,.lit (Ai 1)] oF (am .eql),
   cB 84 [0,1] [oD 4],
   cB 85 [0,4] [oD 5],
   cB 85 [1,4] [oD 6]]
theorem agG {t:Rat}{i:Nat} (hk:i+j<=200000) (h0:0<y) (ht:aH z y=t) (hl:(an 10000 y.natAbs).length=n) (hl1:n≠1)  : aj (ph (agD z y t i j n)) prog ⟨53,[0,1],[⟨sS,[(0,0,7)]⟩],false⟩:=by
 have hp:0<y:=h0;exact adL agE [⟨.agg [.s,.b,.s,.b],[(0,2,5),(2,2,6)]⟩] agF func53 (by kernel_rfl) (lB (gh dD (decide_eq_false (by omega))) (lB (lF (sz:=1) (n:=n) (F:=(dP y)) underlying53 ad rfl) (lB (cn (op:=.eql) ad (λ_ _=>by rw [<- show decide (((n:Nat):Int)=1)=false from decide_eq_false (by omega)];rfl)) (lB (ik (i+j) dD dD rfl (uF hp).symm) (lB (gi dD dD rfl (mp) (ux _ _) rfl) (lB (gi dD dD rfl (mp) (uy _ _) rfl) au))))))
  (aP [.fact 0 (.agg [.s,.b]),.sub 1 (.agg [.s,.lit (.cb false)]) [(0,1,2)]] ⟨λ_ _ h=>ai.is h,⟨λ_ _ h=>ai.isA h (decide_eq_false (by omega)),λ_ _ h=>ai.arr h (by omega) hl,trivial⟩,trivial⟩) (jx (halves λ_ _ hs h1 h2=>ah.join hs (ai.more (ai.eI h1 (by rw [<- ht];exact KC h0)) (by omega)) (ai.more (ai.eI h2 (by rw [<- ht];exact KD h0)) (by omega))))
def agH (z y:Int) (t:Rat) (i j:Nat):List WP:=[Jw z i,Jw y j,Jw (-z) i,Jw (-y) j,Arr 1 (dP (-y)) 1,Ptr 1 ((dP (-y)) 0),Ni ((nth (an 10000 (-y).natAbs) 0:Nat):Int),Dw t (i+j+2)]
def agI:List Out:=[oD 0,⟨.agg [.s,.lit (.cb true)],[(0,0,1)]⟩]
def agJ:List Step:=[cB 28 [1] oF,
   cB 83 [0] [oD 2],
   cB 83 [1] [⟨.agg [.s,.lit (.cb false)],[(0,0,3),(0,1,4)]⟩],bQ [4] [oL (Ai 1)] (aC 53),bQ [4,.lit (Ai 0)] [oP 5] (adK 53),bQ [5] [oN 6] (aQ 3),bQ [6,.lit (Ai 1)] oT (am .eql)]
theorem agK {t:Rat}{i:Nat} (_hk:i+j<=200000) (h0:y<0) (ht:aH z y=t) (hl:(an 10000 (-y).natAbs).length=1) (hd:nth (an 10000 (-y).natAbs) 0=1):aj (ph (agH z y t i j)) prog ⟨53,[0,1],[⟨sS,[(0,0,7)]⟩],false⟩:=by
 have hp:0 < -y:=by omega
 exact adL agI [⟨.agg [.s,.b,.s,.lit (.cb false)],[(0,2,2),(2,2,3)]⟩] agJ func53 (by kernel_rfl) (lB (gh dD (decide_eq_false (by omega))) (lB (ry dD rfl rfl) (lB (zC dD rfl rfl h0 hl) (lB (mn (n:=1) (sz:=1) (F:=(dP (-y))) rfl underlying53 ad) (lB (eg (n:=1) (sz:=1) 0 (F:=(dP (-y))) underlying53 ad rfl (hi:=(by decide)) rfl) (lB (rD ad rfl) (lB (cn (op:=.eql) ad (λ_ _=>by rw [<- show decide (((nth (an 10000 (-y).natAbs) 0:Nat):Int)=1)=true from decide_eq_true (by rw [hd];rfl)];rfl)) au)))))))
  (aP [.fact 0 (.agg [.s,.b]),.fact 1 (.agg [.s,.lit (.cb true)])] ⟨λ_ _ h=>ai.is h,λ_ _ h=>ai.isA h (decide_eq_true (by omega)),trivial⟩) (jx (zD λ_ _ hs h1 h2=>ah.join hs (ai.more (ai.eI h1 (by rw [<- ht];exact agp h0 hl hd)) (by omega)) (ai.more (ai.eI h2 (by rw [<- ht];exact agq h0 hl hd)) (by omega))))
def agL (z y:Int) (t:Rat) (i j:Nat):List WP:=[Jw z i,Jw y j,Jw (-z) i,Jw (-y) j,Arr 1 (dP (-y)) 1,Ptr 1 ((dP (-y)) 0),Ni ((nth (an 10000 (-y).natAbs) 0:Nat):Int),Jw (dO (-z) (-y)) (i+j),Jw ((-z) / (dO (-z) (-y))) i,Jw ((-y) / (dO (-z) (-y))) j,Dw t (i+j+2)]
def agM:List Out:=[oD 0,⟨.agg [.s,.lit (.cb true)],[(0,0,1)]⟩]
def agN:List Step:=[cB 28 [1] oF,
   cB 83 [0] [oD 2],
   cB 83 [1] [⟨.agg [.s,.lit (.cb false)],[(0,0,3),(0,1,4)]⟩],bQ [4] [oL (Ai 1)] (aC 53),bQ [4,.lit (Ai 0)] [oP 5] (adK 53),bQ [5] [oN 6] (aQ 3),bQ [6,.lit (Ai 1)] oF (am .eql),
   cB 84 [2,3] [oD 7],
   cB 85 [2,7] [oD 8],
   cB 85 [3,7] [oD 9]]
theorem agO {t:Rat}{i:Nat} (hk:i+j<=200000) (h0:y<0) (ht:aH z y=t) (hl:(an 10000 (-y).natAbs).length=1) (h1:nth (an 10000 (-y).natAbs) 0≠1):aj (ph (agL z y t i j)) prog ⟨53,[0,1],[⟨sS,[(0,0,10)]⟩],false⟩:=by
 have hp:0 < -y:=by omega
 exact adL agM [⟨.agg [.s,.b,.s,.b],[(0,2,8),(2,2,9)]⟩] agN func53 (by kernel_rfl) (lB (gh dD (decide_eq_false (by omega))) (lB (ry dD rfl rfl) (lB (zC dD rfl rfl h0 hl) (lB (mn (n:=1) (sz:=1) (F:=(dP (-y))) rfl underlying53 ad) (lB (eg (n:=1) (sz:=1) 0 (F:=(dP (-y))) underlying53 ad rfl (hi:=(by decide)) rfl) (lB (rD ad rfl) (lB (cn (op:=.eql) ad (λ_ _=>by rw [<- show decide (((nth (an 10000 (-y).natAbs) 0:Nat):Int)=1)=false from decide_eq_false (by omega)];rfl)) (lB (ik (i+j) dD dD rfl (uF hp).symm) (lB (gi dD dD rfl (mp) (ux _ _) rfl) (lB (gi dD dD rfl (mp) (uy _ _) rfl) au))))))))))
  (aP [.fact 0 (.agg [.s,.b]),.fact 1 (.agg [.s,.lit (.cb true)])] ⟨λ_ _ h=>ai.is h,λ_ _ h=>ai.isA h (decide_eq_true (by omega)),trivial⟩) (jx (halves λ_ _ hs h1 h2=>ah.join hs (ai.more (ai.eI h1 (by rw [<- ht];exact KE h0)) (by omega)) (ai.more (ai.eI h2 (by rw [<- ht];exact KF h0)) (by omega))))
def agP (z y:Int) (t:Rat) (i j n:Nat):List WP:=[Jw z i,Jw y j,Jw (-z) i,Jw (-y) j,Arr 1 (dP (-y)) n,Nz n,Jw (dO (-z) (-y)) (i+j),Jw ((-z) / (dO (-z) (-y))) i,Jw ((-y) / (dO (-z) (-y))) j,Dw t (i+j+2)]
def agQ:List Out:=[oD 0,⟨.agg [.s,.lit (.cb true)],[(0,0,1)]⟩]
def agR:List Step:=[cB 28 [1] oF,
   cB 83 [0] [oD 2],
   cB 83 [1] [⟨.agg [.s,.lit (.cb false)],[(0,0,3),(0,1,4)]⟩],bQ [4] [oN 5] (aC 53),bQ [5,.lit (Ai 1)] oF (am .eql),
   cB 84 [2,3] [oD 6],
   cB 85 [2,6] [oD 7],
   cB 85 [3,6] [oD 8]]
theorem agS {t:Rat}{i:Nat} (hk:i+j<=200000) (h0:y<0) (ht:aH z y=t) (hl:(an 10000 (-y).natAbs).length=n) (hl1:n≠1)  : aj (ph (agP z y t i j n)) prog ⟨53,[0,1],[⟨sS,[(0,0,9)]⟩],false⟩:=by
 have hp:0 < -y:=by omega
 exact adL agQ [⟨.agg [.s,.b,.s,.b],[(0,2,7),(2,2,8)]⟩] agR func53 (by kernel_rfl) (lB (gh dD (decide_eq_false (by omega))) (lB (ry dD rfl rfl) (lB (zC dD rfl rfl h0 hl) (lB (lF (sz:=1) (n:=n) (F:=(dP (-y))) underlying53 ad rfl) (lB (cn (op:=.eql) ad (λ_ _=>by rw [<- show decide (((n:Nat):Int)=1)=false from decide_eq_false (by omega)];rfl)) (lB (ik (i+j) dD dD rfl (uF hp).symm) (lB (gi dD dD rfl (mp) (ux _ _) rfl) (lB (gi dD dD rfl (mp) (uy _ _) rfl) au))))))))
  (aP [.fact 0 (.agg [.s,.b]),.fact 1 (.agg [.s,.lit (.cb true)])] ⟨λ_ _ h=>ai.is h,λ_ _ h=>ai.isA h (decide_eq_true (by omega)),trivial⟩) (jx (halves λ_ _ hs h1 h2=>ah.join hs (ai.more (ai.eI h1 (by rw [<- ht];exact KE h0)) (by omega)) (ai.more (ai.eI h2 (by rw [<- ht];exact KF h0)) (by omega))))
end
end Go.Proofs.YtlmanbjkkjfjgaaGreat.Sym
namespace Go.Proofs.YtlmanbjkkjfjgaaGreat
open Go.Proofs.Tryz
variable {u v:Value}{y z:Int}{j:Nat}{w:World}
theorem Sym.nP {Φ:PH}{i:Nat} (h0:Φ 0=Jw z i) (h1:Φ 1=Jw y j) (hx:ai w v z i) (hy:ai w u y j):Sym.cX Φ (λ_=>False) w [0,1] [v,u]:=
 ⟨Sym.jy h0 (λ_ _ _ g h=>ai.kp h g) hx,Sym.jy h1 (λ_ _ _ g h=>ai.kp h g) hy,trivial⟩
theorem agT {t:Rat}{i:Nat} (hx:ai w v z i) (hy:ai w u y j) (hk:i+j<=200000) (ht:aH z y=t):Calls prog 53 #[v,u] w (jw w t (i+j+2)):=by
 rcases Int.lt_trichotomy y 0 with h | h | h
 ·by_cases hl:(an 10000 (-y).natAbs).length=1
  ·by_cases hd:nth (an 10000 (-y).natAbs) 0=1
   ·exact Sym.iZ (Sym.agK hk h ht hl hd) rfl (vs:=[v,u]) (Sym.nP rfl rfl hx hy)
   ·exact Sym.iZ (Sym.agO hk h ht hl hd) rfl (vs:=[v,u]) (Sym.nP rfl rfl hx hy)
  ·exact Sym.iZ (Sym.agS hk h ht rfl hl) rfl (vs:=[v,u]) (Sym.nP rfl rfl hx hy)
 ·exact Sym.iZ (Sym.agu hk h ht) rfl (vs:=[v,u]) (Sym.nP rfl rfl hx hy)
 ·by_cases hl:(an 10000 y.natAbs).length=1
  ·by_cases hd:nth (an 10000 y.natAbs) 0=1
   ·exact Sym.iZ (Sym.agy hk h ht hl hd) rfl (vs:=[v,u]) (Sym.nP rfl rfl hx hy)
   ·exact Sym.iZ (Sym.agC hk h ht hl hd) rfl (vs:=[v,u]) (Sym.nP rfl rfl hx hy)
  ·exact Sym.iZ (Sym.agG hk h ht rfl hl) rfl (vs:=[v,u]) (Sym.nP rfl rfl hx hy)
end Go.Proofs.YtlmanbjkkjfjgaaGreat
namespace Go.Proofs.YtlmanbjkkjfjgaaGreat.Sym
open Go.Proofs.Tryz
open Go.RowKit
variable {q r t:Rat}{j k p x x' x1 x2:Nat}{y z:Int}{w:World}{u v:Value}{xs ys:List Nat}{b b':Bool}
section
variable {Φ:PH}
theorem qt (q:Rat):(q.den:Int)≠0:=by have:=q.den_nz;omega
theorem _root_.Go.Proofs.YtlmanbjkkjfjgaaGreat.nQ (q:Rat):(q.den:Int)≠0:=qt q
theorem _root_.Go.Proofs.YtlmanbjkkjfjgaaGreat.den_pos (q:Rat):0<(q.den:Int):=by have:=q.den_nz;omega
theorem _root_.Go.Proofs.YtlmanbjkkjfjgaaGreat.agU (q r:Rat):aH (q.num*r.den+r.num*q.den) (q.den*r.den)=q+r:=by rw [iN (Int.mul_ne_zero (nQ q) (nQ r)),<- Rat.divInt_add_divInt _ _ (nQ q) (nQ r),Rat.num_divInt_den,Rat.num_divInt_den]
theorem _root_.Go.Proofs.YtlmanbjkkjfjgaaGreat.agV (q r:Rat):aH (q.num*r.num) (q.den*r.den)=q*r:=by rw [iN (Int.mul_ne_zero (nQ q) (nQ r)),<- Rat.divInt_mul_divInt,Rat.num_divInt_den,Rat.num_divInt_den]
theorem _root_.Go.Proofs.YtlmanbjkkjfjgaaGreat.agW (q:Rat) (h:r≠0):aH (q.num*r.den) (q.den*r.num)=q / r:=by have hr:r.num≠0:=λe=>h (Rat.num_eq_zero.1 e);rw [iN (Int.mul_ne_zero (nQ q) hr),<- aes,Rat.num_divInt_den,Rat.num_divInt_den]
theorem _root_.Go.Proofs.YtlmanbjkkjfjgaaGreat.agX (q r:Rat):cK (q.num*r.den) (r.num*q.den)=mf q r:=by rw [agd (den_pos q) (den_pos r),Rat.num_divInt_den,Rat.num_divInt_den]
theorem gv {q i:Nat} (hp:Im Φ p (Jw z i)) (hq:Im Φ q (Jw y j)) (hx:Φ x=Dw t (i+j+2)) (hx1:Φ x1=Jw t.num (i+j+2)) (hx2:Φ x2=Jw (t.den:Int) (i+j+2)) (ht:aH z y=t) (hk:i+j<=200000:=by omega):aj Φ prog ⟨53,[.fact p,.fact q],[⟨sS,[(0,0,x),(0,2,x1),(2,2,x2)]⟩],false⟩:=
 fe λ_ _ _ _ h0 h1=>(agT (hp _ _ (get h0)) (hq _ _ (get h1)) hk ht).mono λ_ _ h=>lE hx hx1 hx2 h
theorem KG {t:Int} (hp:Im Φ p (Ni z)) (hx:Φ x=Jw t 2) (h1 : -9223372036854775808<=z) (h2:z<=9223372036854775807) (ht:z=t):aj Φ prog ⟨24,[.fact p],[⟨dS,[(0,0,x)]⟩],false⟩:=
 gC λ_ _ _ h0=>by obtain rfl:=hp _ _ (get h0);exact (zt z h1 h2 ht).mono λ_ _ h=>mt hx h
def agY (x y:Int) (t:Rat):List WP:=[Ni x,Ni y,Jw x 2,Jw y 2,Dw t (2+2+2),Jw t.num (2+2+2),Jw (t.den:Int) (2+2+2)]
def agZ:List Out:=[oN 0,oN 1]
def ag0:List Step:=[cB 24 [0] [oD 2],
   cB 24 [1] [oD 3],
   cB 53 [2,3] [⟨.agg [.s,.b,.s,.b],[(0,0,4),(0,2,5),(2,2,6)]⟩]]
theorem ofr {x:Int} (x1 : -9223372036854775808<=x) (x2:x<=9223372036854775807) (y1 : -9223372036854775808<=y) (y2:y<=9223372036854775807) (ht:aH x y=t):aj (ph (agY x y t)) prog ⟨41,[0,1],[oQ 4],false⟩:=
 adL agZ [oQ 4] ag0 func41 (by kernel_rfl) (lB (KG ad rfl x1 x2 rfl) (lB (KG ad rfl y1 y2 rfl) (lB (gv dD dD rfl rfl rfl ht) au)))
  (aP [.fact 0 (.one (.i)),.fact 1 (.one (.i))] ⟨λ_ _ h=>⟨⟨_,h⟩,λ_ e=>by rw [h] at e;cases e⟩,λ_ _ h=>⟨⟨_,h⟩,λ_ e=>by rw [h] at e;cases e⟩,trivial⟩) aV
theorem _root_.Go.Proofs.YtlmanbjkkjfjgaaGreat.ww (x y:Int) (x1 : -9223372036854775808<=x) (x2:x<=9223372036854775807) (y1 : -9223372036854775808<=y) (y2:y<=9223372036854775807) (ht:aH x y=t):Calls prog 41 #[.int .i64 x,.int .i64 y] w (jw w t 6):=iZ (ofr x1 x2 y1 y2 ht) rfl (vs:=[.int .i64 x,.int .i64 y]) ⟨λ_ _=>rfl,λ_ _=>rfl,trivial⟩
theorem oz  (hx:Φ x=Dw t 6) (hx1:Φ x1=Jw t.num 6) (hx2:Φ x2=Jw (t.den:Int) 6) (ht:aH z y=t) (z1:-9223372036854775808<=z:=by decide) (z2:z<=9223372036854775807:=by decide) (y1:-9223372036854775808<=y:=by decide) (y2:y<=9223372036854775807:=by decide):aj Φ prog ⟨41,[.lit (Ai z),.lit (Ai y)],[⟨sS,[(0,0,x),(0,2,x1),(2,2,x2)]⟩],false⟩:=
 fe λ_ _ v u h0 h1=>by obtain rfl:v = .int .i64 z:=h0;obtain rfl:u = .int .i64 y:=h1;exact (ww z y z1 z2 y1 y2 ht).mono λ_ _ h=>lE hx hx1 hx2 h
def ag1 (q r t:Rat) (i j:Nat):List WP:=[Dw q i,Jw q.num i,Jw (q.den:Int) i,Dw r j,Jw r.num j,Jw (r.den:Int) j,Jw (q.num*(r.den:Int)) (i+j),Jw (r.num*(q.den:Int)) (j+i),Jw ((q.num*(r.den:Int))+(r.num*(q.den:Int))) ((i+j)+(j+i)+1),Jw ((q.den:Int)*(r.den:Int)) (i+j),Dw t (((i+j)+(j+i)+1)+(i+j)+2),Jw t.num (((i+j)+(j+i)+1)+(i+j)+2),Jw (t.den:Int) (((i+j)+(j+i)+1)+(i+j)+2),Dw t (3*(i+j)+3)]
def ag2:List Out:=[⟨.agg [.s,.b,.s,.b],[(0,0,0),(0,2,1),(2,2,2)]⟩,⟨.agg [.s,.b,.s,.b],[(0,0,3),(0,2,4),(2,2,5)]⟩]
def ag3:List Step:=[cB 26 [1,5] [oD 6],
   cB 26 [4,2] [oD 7],
   cB 66 [6,7] [oD 8],
   cB 26 [2,5] [oD 9],
   cB 53 [8,9] [⟨.agg [.s,.b,.s,.b],[(0,0,10),(0,2,11),(2,2,12)]⟩]]
theorem addr {i:Nat} (hk:i+j<=50000) (ht:q+r=t):aj (ph (ag1 q r t i j)) prog ⟨151,[0,3],[⟨sS,[(0,0,13)]⟩],false⟩:=
 adL ag2 [oQ 10] ag3 func151 (by kernel_rfl) (lB (dE dD dD rfl rfl) (lB (dE dD dD rfl rfl) (lB (yC dD dD rfl rfl) (lB (dE dD dD rfl rfl) (lB (gv dD dD rfl rfl rfl (by rw [<- ht,agU])) au)))))
  (aP [.sub 0 (.agg [.s,.b,.s,.b]) [(0,2,1),(2,2,2)],.sub 3 (.agg [.s,.b,.s,.b]) [(0,2,4),(2,2,5)]] ⟨⟨λ_ _ h=>ah.is h,λ_ _ h=>ah.fst h,λ_ _ h=>ah.snd h,trivial⟩,⟨λ_ _ h=>ah.is h,λ_ _ h=>ah.fst h,λ_ _ h=>ah.snd h,trivial⟩,trivial⟩) (jx (weak λ_ _ h=>ah.more h (by omega)))
theorem _root_.Go.Proofs.YtlmanbjkkjfjgaaGreat.ag4 {i:Nat} (hx:ah w v q i) (hy:ah w u r j) (hk:i+j<=50000) (ht:q+r=t):Calls prog 151 #[v,u] w (jw w t (3*(i+j)+3)):=iZ (addr (q:=q) (r:=r) (i:=i) (j:=j) hk ht) rfl (vs:=[v,u]) ⟨jy rfl (λ_ _ _ g h=>ah.kp h g) hx,jy rfl (λ_ _ _ g h=>ah.kp h g) hy,trivial⟩
theorem Cy {q i:Nat}{z:Rat}{y:Rat} (hp:Im Φ p (Dw z i)) (hq:Im Φ q (Dw y j)) (hx:Φ x=Dw t (3*(i+j)+3)) (hx1:Φ x1=Jw t.num (3*(i+j)+3)) (hx2:Φ x2=Jw (t.den:Int) (3*(i+j)+3)) (ht:z+y=t) (hk:i+j<=50000:=by omega):aj Φ prog ⟨151,[.fact p,.fact q],[⟨sS,[(0,0,x),(0,2,x1),(2,2,x2)]⟩],false⟩:=
 fe λ_ _ _ _ h0 h1=>(ag4 (hp _ _ (get h0)) (hq _ _ (get h1)) hk ht).mono λ_ _ h=>lE hx hx1 hx2 h
def ag5 (q r t:Rat) (i j:Nat):List WP:=[Dw q i,Jw q.num i,Jw (q.den:Int) i,Dw r j,Jw r.num j,Jw (r.den:Int) j,Jw (q.num*r.num) (i+j),Jw ((q.den:Int)*(r.den:Int)) (i+j),Dw t ((i+j)+(i+j)+2),Jw t.num ((i+j)+(i+j)+2),Jw (t.den:Int) ((i+j)+(i+j)+2),Dw t (2*(i+j)+2)]
def ag6:List Out:=[⟨.agg [.s,.b,.s,.b],[(0,0,0),(0,2,1),(2,2,2)]⟩,⟨.agg [.s,.b,.s,.b],[(0,0,3),(0,2,4),(2,2,5)]⟩]
def ag7:List Step:=[cB 26 [1,4] [oD 6],
   cB 26 [2,5] [oD 7],
   cB 53 [6,7] [⟨.agg [.s,.b,.s,.b],[(0,0,8),(0,2,9),(2,2,10)]⟩]]
theorem ag8 {i:Nat} (hk:i+j<=50000) (ht:q*r=t):aj (ph (ag5 q r t i j)) prog ⟨95,[0,3],[⟨sS,[(0,0,11)]⟩],false⟩:=
 adL ag6 [oQ 8] ag7 func95 (by kernel_rfl) (lB (dE dD dD rfl rfl) (lB (dE dD dD rfl rfl) (lB (gv dD dD rfl rfl rfl (by rw [<- ht,agV])) au)))
  (aP [.sub 0 (.agg [.s,.b,.s,.b]) [(0,2,1),(2,2,2)],.sub 3 (.agg [.s,.b,.s,.b]) [(0,2,4),(2,2,5)]] ⟨⟨λ_ _ h=>ah.is h,λ_ _ h=>ah.fst h,λ_ _ h=>ah.snd h,trivial⟩,⟨λ_ _ h=>ah.is h,λ_ _ h=>ah.fst h,λ_ _ h=>ah.snd h,trivial⟩,trivial⟩) (jx (weak λ_ _ h=>ah.more h (by omega)))
theorem _root_.Go.Proofs.YtlmanbjkkjfjgaaGreat.ag9 {i:Nat} (hx:ah w v q i) (hy:ah w u r j) (hk:i+j<=50000) (ht:q*r=t):Calls prog 95 #[v,u] w (jw w t (2*(i+j)+2)):=iZ (ag8 (q:=q) (r:=r) (i:=i) (j:=j) hk ht) rfl (vs:=[v,u]) ⟨jy rfl (λ_ _ _ g h=>ah.kp h g) hx,jy rfl (λ_ _ _ g h=>ah.kp h g) hy,trivial⟩
theorem wP {q i:Nat}{z:Rat}{y:Rat} (hp:Im Φ p (Dw z i)) (hq:Im Φ q (Dw y j)) (hx:Φ x=Dw t (2*(i+j)+2)) (hx1:Φ x1=Jw t.num (2*(i+j)+2)) (hx2:Φ x2=Jw (t.den:Int) (2*(i+j)+2)) (ht:z*y=t) (hk:i+j<=50000:=by omega):aj Φ prog ⟨95,[.fact p,.fact q],[⟨sS,[(0,0,x),(0,2,x1),(2,2,x2)]⟩],false⟩:=
 fe λ_ _ _ _ h0 h1=>(ag9 (hp _ _ (get h0)) (hq _ _ (get h1)) hk ht).mono λ_ _ h=>lE hx hx1 hx2 h
def aha (q r t:Rat) (i j:Nat):List WP:=[Dw q i,Jw q.num i,Jw (q.den:Int) i,Dw r j,Jw r.num j,Jw (r.den:Int) j,Jw (q.num*(r.den:Int)) (i+j),Jw ((q.den:Int)*r.num) (i+j),Dw t ((i+j)+(i+j)+2),Jw t.num ((i+j)+(i+j)+2),Jw (t.den:Int) ((i+j)+(i+j)+2),Dw t (2*(i+j)+2)]
def ahb:List Out:=[⟨.agg [.s,.b,.s,.b],[(0,0,0),(0,2,1),(2,2,2)]⟩,⟨.agg [.s,.b,.s,.b],[(0,0,3),(0,2,4),(2,2,5)]⟩]
def ahc:List Step:=[cB 26 [1,5] [oD 6],
   cB 26 [2,4] [oD 7],
   cB 53 [6,7] [⟨.agg [.s,.b,.s,.b],[(0,0,8),(0,2,9),(2,2,10)]⟩]]
theorem ahd {i:Nat} (hk:i+j<=50000) (h0:r≠0) (ht:q / r=t):aj (ph (aha q r t i j)) prog ⟨152,[0,3],[⟨sS,[(0,0,11)]⟩],false⟩:=
 adL ahb [oQ 8] ahc func152 (by kernel_rfl) (lB (dE dD dD rfl rfl) (lB (dE dD dD rfl rfl) (lB (gv dD dD rfl rfl rfl (by rw [<- ht,agW q h0])) au)))
  (aP [.sub 0 (.agg [.s,.b,.s,.b]) [(0,2,1),(2,2,2)],.sub 3 (.agg [.s,.b,.s,.b]) [(0,2,4),(2,2,5)]] ⟨⟨λ_ _ h=>ah.is h,λ_ _ h=>ah.fst h,λ_ _ h=>ah.snd h,trivial⟩,⟨λ_ _ h=>ah.is h,λ_ _ h=>ah.fst h,λ_ _ h=>ah.snd h,trivial⟩,trivial⟩) (jx (weak λ_ _ h=>ah.more h (by omega)))
theorem _root_.Go.Proofs.YtlmanbjkkjfjgaaGreat.YM {i:Nat} (hx:ah w v q i) (hy:ah w u r j) (hk:i+j<=50000) (h0:r≠0) (ht:q / r=t):Calls prog 152 #[v,u] w (jw w t (2*(i+j)+2)):=iZ (ahd (q:=q) (r:=r) (i:=i) (j:=j) hk h0 ht) rfl (vs:=[v,u]) ⟨jy rfl (λ_ _ _ g h=>ah.kp h g) hx,jy rfl (λ_ _ _ g h=>ah.kp h g) hy,trivial⟩
def ahe (q t:Rat) (i:Nat):List WP:=[Dw q i,Jw q.num i,Jw (q.den:Int) i,Jw (-q.num) i,Dw t i]
def ahf:List Out:=[⟨.agg [.s,.b,.s,.b],[(0,0,0),(0,2,1),(2,2,2)]⟩]
def ahg:List Step:=[cB 83 [1] [oD 3]]
theorem ahh {i:Nat} (ht : -q=t):aj (ph (ahe q t i)) prog ⟨52,[0],[⟨sS,[(0,0,4)]⟩],false⟩:=
 adL ahf [⟨.agg [.s,.b,.s,.b],[(0,2,3),(2,2,2)]⟩] ahg func52 (by kernel_rfl) (lB (ry dD rfl rfl) au)
  (aP [.sub 0 (.agg [.s,.b,.s,.b]) [(0,2,1),(2,2,2)]] ⟨⟨λ_ _ h=>ah.is h,λ_ _ h=>ah.fst h,λ_ _ h=>ah.snd h,trivial⟩,trivial⟩) (jx (halves λ_ _ hs h1 h2=>ah.join hs (ai.eI h1 (by rw [<- ht,Rat.neg_num])) (ai.eI h2 (by rw [<- ht,Rat.neg_den]))))
theorem _root_.Go.Proofs.YtlmanbjkkjfjgaaGreat.ahi {i:Nat} (hx:ah w v q i) (ht : -q=t):Calls prog 52 #[v] w (jw w t i):=iZ (ahh ht) rfl (vs:=[v]) ⟨jy rfl (λ_ _ _ g h=>ah.kp h g) hx,trivial⟩
theorem wR {i:Nat}{z:Rat} (hp:Im Φ p (Dw z i)) (hx:Φ x=Dw t i) (hx1:Φ x1=Jw t.num i) (hx2:Φ x2=Jw (t.den:Int) i) (ht : -z=t):aj Φ prog ⟨52,[.fact p],[⟨sS,[(0,0,x),(0,2,x1),(2,2,x2)]⟩],false⟩:=
 gC λ_ _ _ h0=>(ahi (hp _ _ (get h0)) ht).mono λ_ _ h=>lE hx hx1 hx2 h
theorem ahj {q i:Nat}{t:Int} (hp:Im Φ p (Jw z i)) (hq:Im Φ q (Jw y j)) (hx:Φ x=Ni t) (hr:cK z y=t) (hi:i+j<=1000000:=by omega):aj Φ prog ⟨40,[.fact p,.fact q],[oN x],false⟩:=
 fe λ_ _ _ _ h0 h1=>(Iv t (hp _ _ (get h0)) (hq _ _ (get h1)) hi hr).mono λ_ _ h=>yy hx h
def ahk (q r:Rat) (t:Int) (i j:Nat):List WP:=[Dw q i,Jw q.num i,Jw (q.den:Int) i,Dw r j,Jw r.num j,Jw (r.den:Int) j,Jw (q.num*(r.den:Int)) (i+j),Jw (r.num*(q.den:Int)) (j+i),Ni t]
def ahl:List Out:=[⟨.agg [.s,.b,.s,.b],[(0,0,0),(0,2,1),(2,2,2)]⟩,⟨.agg [.s,.b,.s,.b],[(0,0,3),(0,2,4),(2,2,5)]⟩]
def ahm:List Step:=[cB 26 [1,5] [oD 6],
   cB 26 [4,2] [oD 7],
   cB 40 [6,7] [oN 8]]
theorem ahn {t:Int}{i:Nat} (hk:i+j<=100000) (ht:mf q r=t):aj (ph (ahk q r t i j)) prog ⟨130,[0,3],[oN 8],false⟩:=
 adL ahl [oN 8] ahm func130 (by kernel_rfl) (lB (dE dD dD rfl rfl) (lB (dE dD dD rfl rfl) (lB (ahj dD dD rfl (by rw [<- ht,agX])) au)))
  (aP [.sub 0 (.agg [.s,.b,.s,.b]) [(0,2,1),(2,2,2)],.sub 3 (.agg [.s,.b,.s,.b]) [(0,2,4),(2,2,5)]] ⟨⟨λ_ _ h=>ah.is h,λ_ _ h=>ah.fst h,λ_ _ h=>ah.snd h,trivial⟩,⟨λ_ _ h=>ah.is h,λ_ _ h=>ah.fst h,λ_ _ h=>ah.snd h,trivial⟩,trivial⟩) aV
theorem _root_.Go.Proofs.YtlmanbjkkjfjgaaGreat.YL {i:Nat} (hx:ah w v q i) (hy:ah w u r j) (t:Int) (hk:i+j<=100000) (ht:mf q r=t):Calls prog 130 #[v,u] w (λe w'=>e = .returned (.int .i64 t)∧w.grownBy w' none):=KH (ahn hk ht) (vs:=[v,u]) ⟨jy rfl (λ_ _ _ g h=>ah.kp h g) hx,jy rfl (λ_ _ _ g h=>ah.kp h g) hy,trivial⟩ λ_ _ hg _ f=>⟨congrArg _ (f _ (List.mem_singleton.2 rfl)),hg⟩
theorem _root_.Go.Proofs.YtlmanbjkkjfjgaaGreat.ak.nor  (h:ak w v z k):iy w v z:=h.1
theorem aau {q i:Nat}{r:Bool} (hp:Im Φ p (Jw z i)) (hq:Im Φ q (Nw y j)) (he:z=y) (hr:true=r) (hk:i<=1000000:=by omega):aj Φ prog ⟨39,[.fact p,.fact q],[oL (.cb r)],false⟩:=
 fe λ_ _ _ _ h0 h1=>(hr▸aga (hp _ _ (get h0)) hk (he▸(hq _ _ (get h1)).1)).mono λ_ _ h=>zE h
theorem eY.fst  (h:eY w v q k):ak w (bS 0 2 v) q.num k:=by obtain ⟨_,_,_,_,_,_,_,_,rfl,h1,_⟩:=h;exact h1
theorem eY.snd  (h:eY w v q k):ak w (bS 2 2 v) (q.den:Int) k:=by obtain ⟨_,_,_,_,_,_,_,_,rfl,_,h2⟩:=h;exact h2
theorem _root_.Go.Proofs.YtlmanbjkkjfjgaaGreat.aho {p:Option Addr}{cap m:Nat} (hx:Sl w .u32 (.slice p xs.length cap) xs) (hm:(xs.take k).length=m):Sl w .u32 (.slice p m cap) (xs.take k):=by
 have:=hx.take (min xs.length k) (Nat.min_le_left _ _);rw [show xs.take (min xs.length k)=xs.take k by
  rcases Nat.le_total xs.length k with h | h
  ·rw [Nat.min_eq_left h,List.take_length,List.take_of_length_le h]
  ·rw [Nat.min_eq_right h]] at this
 rw [<- hm,List.length_take,Nat.min_comm];exact this
theorem aJ.i  (k:Nat) (h:aJ w v b xs) (hk:xs.length<=k):aD w v (sg b (Proofs.YtlmanbjkkjfjgaaGreat.val 4294967296 xs)) k:=by obtain ⟨s,rfl,h1,h2⟩:=h;exact ⟨_,_,_,rfl,Num.row h1 h2 k hk,rfl⟩
theorem ahp  (k:Nat){ki:Int} (hki:(k:Int)=ki) (hp:∀w v,Φ p w v->aJ w v b xs) (hx:Φ x=λw v=>aJ w v b (xs.take k)) (hx':Φ x'=Iw z k) (hz:sg b (Proofs.YtlmanbjkkjfjgaaGreat.val 4294967296 (xs.take k))=z):aj Φ prog ⟨80,[.fact p,.lit (Ai ki)],[⟨iS,[(0,0,x),(0,0,x')]⟩],false⟩:=
 fe λ_ w v u h0 h1=>by
  subst hki;obtain rfl:u = .int .i64 k:=h1;obtain ⟨s,rfl,a1,a2⟩:=hp _ _ (get h0);obtain ⟨p,c,rfl,c1,-⟩:=id a1;obtain ⟨m,hm⟩:∃m,(xs.take k).length=m:=⟨_,rfl⟩;refine (agc k c1 hm).mono λe w' ⟨he,g⟩=>⟨g,[_],he,⟨ro,λq hq w1 hw=>?_⟩,trivial⟩;have r:aJ w1 (.agg #[.bool b,.slice p m c]) b (xs.take k):=aJ.kp ⟨_,rfl,(aho a1 hm).kp (Kp.of g),a2.take k⟩ hw.1;simp only [List.mem_cons,List.not_mem_nil,or_false] at hq;rcases hq with rfl | rfl
  ·show Φ x w1 _;rw [hx];exact r
  ·show Φ x' w1 _;rw [hx'];exact hz▸aJ.i k r (by rw [List.length_take];omega)
theorem gE.fst  (h:gE w v b xs b' ys):aJ w (bS 0 2 v) b xs:=by obtain ⟨s,s',rfl,h1,h2,h3,h4⟩:=h;exact ⟨_,rfl,h1,h2⟩
theorem gE.snd  (h:gE w v b xs b' ys):aJ w (bS 2 2 v) b' ys:=by obtain ⟨s,s',rfl,h1,h2,h3,h4⟩:=h;exact ⟨_,rfl,h3,h4⟩
theorem gE.join  (hs:qS.is v) (h1:aJ w (bS 0 2 v) b xs) (h2:aJ w (bS 2 2 v) b' ys):gE w v b xs b' ys:=by
 obtain ⟨vs,rfl,h⟩:=hs
 match vs,h with
 | [v0,v1,v2,v3],h=>
  obtain ⟨s,e,a1,a2⟩:=h1;obtain ⟨s',e',a3,a4⟩:=h2;have e1:(Value.agg #[v0,v1]) = .agg #[.bool b,s]:=e;have e2:(Value.agg #[v2,v3]) = .agg #[.bool b',s']:=e';simp only [Value.agg.injEq,Array.mk.injEq,List.cons.injEq,and_true] at e1 e2;obtain ⟨rfl,rfl⟩:=e1;obtain ⟨rfl,rfl⟩:=e2;exact ⟨_,_,rfl,a1,a2,a3,a4⟩
theorem ZJ {q:Nat} (k:Nat) (hp:∀w v,Φ p w v->aJ w v b xs) (hq:Im Φ q (Ni (k:Int))) (hx:Φ x=λw v=>aJ w v b (xs.take k)) (hx':Φ x'=Iw z k) (hz:sg b (Proofs.YtlmanbjkkjfjgaaGreat.val 4294967296 (xs.take k))=z):aj Φ prog ⟨80,[.fact p,.fact q],[⟨iS,[(0,0,x),(0,0,x')]⟩],false⟩:=λX w vs hX ha=>by
 match vs,ha with
 | [v,u],ha=>
  exact ahp k rfl hp hx hx' hz X w [v,u] hX ⟨ha.1,hq _ _ (get ha.2.1),trivial⟩
def uI (w:World) (v:Value) (xs:List Nat):Prop:=Sl w .u32 v xs∧All 4294967296 xs
theorem uI.kp {w':World} (h:uI w v xs) (g:Kp w w'):uI w' v xs:=⟨h.1.kp g,h.2⟩
theorem aJ.sl  (h:aJ w v b xs):uI w (bS 1 1 v) xs:=by obtain ⟨s,rfl,h1,h2⟩:=h;exact ⟨h1,h2⟩
theorem gE.qv  (k:Nat){u:Int} (h:gE w v b xs b' ys) (h1:xs.length<=k) (h2:ys.length<=k) (hz:sg b (Proofs.YtlmanbjkkjfjgaaGreat.val 4294967296 xs)=z) (hu:sg b' (Proofs.YtlmanbjkkjfjgaaGreat.val 4294967296 ys)=u):QV w v z u k:=
 QV.join (gE.is h) (hz▸aJ.i k (gE.fst h) h1) (hu▸aJ.i k (gE.snd h) h2) (Nat.le_refl _) (Nat.le_refl _)
end
end Go.Proofs.YtlmanbjkkjfjgaaGreat.Sym
