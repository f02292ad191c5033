/- Ratio's functions by the symbolic walk. The reference's rationals: Quo, Make. The reference's Make, by the symbolic walk. The reference's rationals, what comes in, copies and checks, by the symbolic walk. -/
import Derived.Test.YtbokonbbokhjlaaGreatSymS
import Derived.Test.YtbokonbbokhjlaaGreatRats
set_option maxRecDepth 100000
namespace Go.Proofs.YtbokonbbokhjlaaGreat.Sym
open Go.RowKit
section
variable {Φ:PH}
def QVb (w:World) (v:Value) (b:Bool) (z y:Int) (k:Nat):Prop:=∃s b' s',v = .agg #[.bool b,s,.bool b',s']∧Num w s z.natAbs k∧z=sg b z.natAbs∧aC w (.agg #[.bool b',s']) y k
theorem QVb.kp {w w':World}{v:Value}{b:Bool}{z y:Int}{k:Nat} (h:QVb w v b z y k) (g:Kp w w'):QVb w' v b z y k:=by
 obtain ⟨s,b',s',h1,h2,h3,h4⟩:=h
 exact ⟨s,b',s',h1,h2.kp g,h3,h4.kp g⟩
theorem QV.vb {w:World}{v:Value}{z y:Int}{k:Nat} (h:QV w v z y k):∃b,QVb w v b z y k:=by
 obtain ⟨b,p,n,c,b',p',n',c',rfl,h1,h2⟩:=h
 obtain ⟨b1,s1,X,e,h3,h4⟩:=h1
 simp only [Value.agg.injEq,Array.mk.injEq,List.cons.injEq,Value.bool.injEq,and_true] at e
 obtain ⟨rfl,rfl⟩:=e
 have e2:z.natAbs=X:=by rw [h4];exact ei _ _
 exact ⟨b,_,b',_,rfl,by rw [e2];exact h3,by rw [e2];exact h4,h2⟩
theorem QVb.is {w:World}{v:Value}{b:Bool}{z y:Int}{k:Nat} (h:QVb w v b z y k):(bm.agg [.lit (.cb b),.s,.b,.s]).is v:=by
 obtain ⟨s,b',s',rfl,h1,h2,h3⟩:=h
 obtain ⟨p,n,c,rfl⟩:=h1.slice
 obtain ⟨b2,p',n',c',e,h3⟩:=h3.open
 simp only [Value.agg.injEq,Array.mk.injEq,List.cons.injEq,Value.bool.injEq,and_true] at e
 obtain ⟨rfl,rfl⟩:=e
 exact ⟨[_,_,_,_],rfl,rfl,⟨_,_,_,rfl⟩,⟨_,rfl⟩,⟨_,_,_,rfl⟩,trivial⟩
theorem QVb.num {w:World}{v:Value}{b:Bool}{z y:Int}{k:Nat} (h:QVb w v b z y k):Num w (bi 1 1 v) z.natAbs k:=by
 obtain ⟨s,b',s',rfl,h1,h2,h3⟩:=h;exact h1
theorem QVb.snd {w:World}{v:Value}{b:Bool}{z y:Int}{k:Nat} (h:QVb w v b z y k):aC w (bi 2 2 v) y k:=by
 obtain ⟨s,b',s',rfl,h1,h2,h3⟩:=h;exact h3
end
end Go.Proofs.YtbokonbbokhjlaaGreat.Sym
namespace Go.Proofs.YtbokonbbokhjlaaGreat
open Go.RowKit
theorem Vf {w:World}{X k cap n:Nat}{p:Option Addr}{z:Int}{c:Bool} (b:Bool) (h:cG w (.slice p n cap) X k) (hn:n=(aj 10000 X).length) (hz:z=sg b X) (hc:c=(b && decide (0<n))):an w (.agg #[.slice p n cap,.bool c]) z k:=by
 subst hn hz hc
 refine ⟨p,cap,?_,?_⟩
 ·rw [mv,ei,lf _ _ (by omega)]
 ·rw [ei];exact h
theorem an.flag {w:World}{p:Option Addr}{n c k:Nat}{b:Bool}{z:Int} (h:an w (.agg #[.slice p n c,.bool b]) z k):b=decide (z<0)∧n=(aj 10000 z.natAbs).length:=by
 obtain ⟨p',c',e,-⟩:=h
 simp only [Value.agg.injEq,Array.mk.injEq,List.cons.injEq,Value.bool.injEq,Value.slice.injEq,and_true] at e
 exact ⟨e.2,e.1.2.1⟩
def Cel (w:World) (blk off:Nat) (x:Int):Prop:=w.cell? ⟨blk,off,none⟩=some (.int .i64 x)
theorem Cel.kp {w w':World}{blk off:Nat}{x:Int} (h:Cel w blk off x) (g:Kp w w'):Cel w' blk off x:=g.2 _ _ _ (by decide) h
theorem Ec {X:Nat} (h:(aj 10000 X).length=1):0<X∧X<10000:=by
 have h1:=iT (b:=10000) (by omega) X
 rw [h] at h1
 refine ⟨?_,by omega⟩
 rcases Nat.eq_zero_or_pos X with rfl | h2
 ·have:=(fb (b:=10000) (by omega) (n:=0)).2 rfl;omega
 ·exact h2
theorem an.one {w:World}{p:Option Addr}{c k:Nat}{b:Bool}{z:Int} (h:an w (.agg #[.slice p 1 c,.bool b]) z k):∃blk off,p=some ⟨blk,off,none⟩∧Cel w blk off (z.natAbs:Nat):=by
 obtain ⟨-,hn⟩:=h.flag
 obtain ⟨p',c',e,h2⟩:=h
 simp only [Value.agg.injEq,Array.mk.injEq,List.cons.injEq,Value.bool.injEq,Value.slice.injEq,and_true] at e
 obtain ⟨⟨rfl,-,rfl⟩,-⟩:=e
 obtain ⟨q,c2,e2,-,-,h3⟩:=h2.1
 simp only [Value.slice.injEq,true_and] at e2
 obtain ⟨rfl,rfl⟩:=e2
 have hx:=Ec hn.symm
 rcases h3 with h3 | ⟨blk,off,rfl,-,h3⟩
 ·rw [h3] at hn;cases hn
 ·refine ⟨blk,off,rfl,?_⟩
  have:=h3 0 (by omega)
  rw [vm (by omega) hx.1 hx.2] at this
  exact this
theorem vS (z:Int):(Rat.divInt z 1).num=z:=by rw [Rat.num_divInt];simp
theorem vT (z:Int):((Rat.divInt z 1).den:Int)=1:=by rw [Rat.den_divInt];simp
theorem q9 {z y:Int} (h:0<y):da z y=(Int.gcd z y:Int):=by rw [da,if_neg (by omega)]
set_option maxHeartbeats 4000000 in
theorem Vg {b b':Bool}{p q:Option Addr}{n m cap cap' X Y i j:Nat}{w:World} (hx:cG w (.slice p n cap) X i) (hy:cG w (.slice q m cap') Y j) (hi:i+j<=900000) (hY:0<Y) :
  Calls Tryz.prog 71 #[.agg #[.slice p n cap,.bool b],.agg #[.slice q m cap',.bool b']] w (ie w (sg (b != b') (X / Y)) i):=by
 have Hx:=Lib.hid hx
 have Hy:=Lib.hid hy
 have S0:Kept w [(w.heap.size+1,0,(.slice q m cap')),(w.heap.size+1,1,(.bool b')),(w.heap.size,0,(.slice p n cap)),(w.heap.size,1,(.bool b))] [w.heap.size+1+1] (((w.alloc (.cells #[.slice p n cap,.bool b] 56)).alloc (.cells #[.slice q m cap',.bool b'] 56)).alloc (.cells #[.slice none 0 0,.bool false] 56)):=(((Kept.start w).box _ _ _ _ rfl).box _ _ _ _ (by simp)).res _ _ _ _ _ (by simp)
 clear hx hy
 go_enter Tryz.func71,Tryz.ntmps71
 go_wp2_with fail
 refine (zC (Hx.out.grown (Kept.all _ _ S0)) (Hy.out.grown (Kept.all _ _ S0)) (by omega) hY).mono ?_
 rintro e w1 ⟨vq,vr,rfl,hq,hr,bq,br,hg⟩
 obtain ⟨pq,cq,rfl⟩:=hq.slice
 obtain ⟨pr,cr,rfl⟩:=hr.slice
 have Hq:=Lib.hid hq
 have Bq:=Lib.hid bq
 replace S0:=Kept.grown _ _ S0 hg
 have s2:=S0.lt (g:=w.heap.size+1+1) (by simp)
 clear hg hq hr bq br
 obtain ⟨l,hl⟩:∃l,(aj 10000 (X / Y)).length=l:=⟨_,rfl⟩
 rw [hl] at Hq
 rw [hl]
 have Hl:=Lib.hid hl
 clear hl
 obtain ⟨c0,c1,c2,c3,r0,r1,f0,f1,G⟩:=id S0
 go_wp2_with fail
 refine (jp _ _ _ _ _).mono ?_
 rintro e w2 ⟨rfl,hg⟩
 replace S0:=Kept.grown _ _ S0 hg
 replace Hq:=Lib.hid (Hq.out.grown hg (.inl rfl))
 clear hg c0 c1 c2 c3 r0 r1 f0 f1 G
 obtain ⟨c0,c1,c2,c3,r0,r1,f0,f1,G⟩:=id S0
 go_wp2_with fail
 have G2:=Kept.all _ _ (Kept.set (g:=w.heap.size+1+1) (u:=.slice pq l cq) (v:=.bool ((b != b') && decide (0<l))) _ _ (by simp <;> omega) (by omega) S0)
 refine Us Tryz.results71 rfl rfl (dm r0) (dp r1) (ie.mk (Vf (b != b') (X:=X / Y) ?_ Hl.out.symm rfl rfl) G2)
 exact ⟨(Hq.out.grown (gJ _ _ _ _) (own_ne Hq.out (by first | omega | (simp <;> omega)))).sl,Bq.out⟩
set_option maxHeartbeats 4000000 in
theorem Vh {v u:Value}{z y t:Int}{i j:Nat}{w:World} (hx:an w v z i) (hy:an w u y j) (hi:i+j<=900000) (h0:y≠0) (hd:y∣z) (ht:z / y=t) :
  Calls Tryz.prog 71 #[v,u] w (ie w t i):=by
 subst ht
 obtain ⟨b,p,n,cap,X,rfl,dx,rfl⟩:=hx.open
 obtain ⟨b',q,m,cap',Y,rfl,dy,rfl⟩:=hy.open
 have hY:Y≠0:=by rintro rfl;exact h0 (by cases b' <;> rfl)
 have hR:X % Y=0:=by
  have:=Int.natAbs_dvd_natAbs.2 hd
  rw [ei,ei] at this
  exact Nat.mod_eq_zero_of_dvd this
 rw [(tH (b:=b) (b':=b') hY (.inr hR)).1]
 exact Vg dx dy hi (Nat.pos_of_ne_zero hY)
end Go.Proofs.YtbokonbbokhjlaaGreat
namespace Go.Proofs.YtbokonbbokhjlaaGreat.Sym
open Go.RowKit
def cZ (y:Int) (i:Nat) (_:World) (v:Value):Prop:=v = .agg #[.int .i64 ((nth (aj 10000 y.natAbs) i:Nat):Int)]
theorem an.arr {w:World}{v:Value}{y:Int}{k n:Nat} (h:an w v y k) (h0:y≠0) (hl:(aj 10000 y.natAbs).length=n):Arr 1 (cZ y) n w (bi 0 1 v):=by
 subst hl
 obtain ⟨p,c,rfl,h2⟩:=h
 obtain ⟨q,c2,e2,-,-,h3⟩:=h2.1
 simp only [Value.slice.injEq,true_and] at e2
 obtain ⟨rfl,rfl⟩:=e2
 rcases h3 with h3 | ⟨b,off,rfl,-,h3⟩
 ·have:=(fb (b:=10000) (by omega) (n:=y.natAbs)).1 (by rw [h3];rfl)
  omega
 ·refine ⟨_,_,rfl,fun i hi=>⟨b,off,rfl,[.int .i64 ((nth (aj 10000 y.natAbs) i:Nat):Int)],rfl,fun j u hj=>?_,rfl⟩⟩
  have h4:=h3 i hi
  match j,hj with
  | 0,hj=>
   simp only [List.getElem?_cons_zero,Option.some.injEq] at hj
   subst hj
   rw [Nat.mul_one,Nat.add_zero]
   exact h4
theorem an.isA {w:World}{v:Value}{y:Int}{k:Nat}{b:Bool} (h:an w v y k) (hb:decide (y<0)=b):(bm.agg [.s,.lit (.cb b)]).is v:=by
 obtain ⟨p,c,rfl,-⟩:=h
 exact ⟨_,rfl,⟨_,_,_,rfl⟩,by rw [hb];rfl,trivial⟩
section
variable {P:Program}{Φ:PH}{X:Nat->Prop}{p q x x2 i j n:Nat}{z y t:Int}{w w':World}{e:Ending}
theorem Vi {sh:bm}{u:Value}{G:WP}{w:World} (hs:sh.is u) (hx:Φ x=G) (h:∀w1,Off X w w1->G w1 u):bh Φ X w [⟨sh,[(0,0,x)]⟩] [u]:=⟨⟨hs,fun r hr w1 hw=>by
 simp only [List.mem_singleton] at hr;subst hr
 show Φ x w1 _;rw [hx];exact h w1 hw⟩,trivial⟩
theorem oV {T:TypeId} (hT:gQ P T=some false) (hp:∀w v,Φ p w v->Ptr 1 (cZ y 0) w v) (hx:Φ x=Ni ((nth (aj 10000 y.natAbs) 0:Nat):Int)):ai Φ P ⟨0,[.fact p],[oN x],.quiet (aM T)⟩:=fun X w ac o xs _ hm ha=>by
 unfold aM at hm
 split at hm
 case h_2=>cases hm
 rename_i t y ho
 split at hm
 case isFalse=>cases hm
 rename_i ht
 subst ht
 simp only [Option.some.injEq] at hm
 subst hm
 obtain ⟨b,off,hv,l,h1,h2,h3⟩:=hp _ _ (ha.1 w (Off.refl _ _))
 have h3:Value.agg l.toArray = .agg #[.int .i64 _]:=h3
 obtain rfl:l = [.int .i64 _]:=by simpa using h3
 have hc:=h2 0 _ rfl
 refine ⟨.int .i64 _,w,?_,ba w none,Vi ⟨⟨_,rfl⟩,fun _ h=>by cases h⟩ hx fun _ _=>rfl⟩
 rw [Nat.add_zero] at hc
 unfold execOp
 simp [ho,hv,Instr.loadAt,Instr.sureAddr,loadVar,gR hT,hc]
theorem Ed (hx:Φ x=fun w v=>an w v t i) (hx2:Φ x2=Arr 1 (cZ t) n) (h0:0<t) (hl:(aj 10000 t.natAbs).length=n) (h:ie w t i e w'):post Φ X [⟨.agg [.s,.lit (.cb false)],[(0,0,x),(0,1,x2)]⟩] false w e w':=by
 obtain ⟨s,m,c,b,rfl,h1,h2⟩:=h
 obtain rfl:b=false:=h1.flag.1.trans (decide_eq_false (by omega))
 refine ⟨h2,[_],rfl,⟨⟨_,rfl,⟨_,_,_,rfl⟩,rfl,trivial⟩,fun q hq w1 hw=>?_⟩,trivial⟩
 have h':=an.kp h1 hw.1
 simp only [List.mem_cons,List.not_mem_nil,or_false] at hq
 rcases hq with rfl | rfl
 ·show Φ x w1 _;rw [hx];exact h'
 ·show Φ x2 w1 _;rw [hx2];exact an.arr h' (by omega) hl
theorem vU (hp:∀w v,Φ p w v->an w v z i) (hx:Φ x=fun w v=>an w v (-z) i) (hx2:Φ x2=Arr 1 (cZ (-z)) n) (h0:z<0) (hl:(aj 10000 (-z).natAbs).length=n):ai Φ Tryz.prog ⟨80,[.fact p],[⟨.agg [.s,.lit (.cb false)],[(0,0,x),(0,1,x2)]⟩],false⟩:=
 gj fun _ _ _ h1=>(zJ (hp _ _ (get h1)) rfl).mono fun _ _ h=>Ed hx hx2 (by omega) hl h
theorem Vj (hx:Φ x=fun w v=>an w v 1 2) (hx2:Φ x2=Arr 1 (cZ 1) 1):ai Φ Tryz.prog ⟨52,[.lit (.ci .i64 1)],[⟨.agg [.s,.lit (.cb false)],[(0,0,x),(0,1,x2)]⟩],false⟩:=
 gj fun _ _ v h1=>by
  obtain rfl:v = .int .i64 1:=h1
  exact (tD 1 (by decide) (by decide) rfl).mono fun _ _ h=>Ed hx hx2 (by decide) (by decide +kernel) h
theorem kG (hp:∀w v,Φ p w v->an w v z i) (hq:∀w v,Φ q w v->an w v y j) (hx:Φ x=fun w v=>an w v t i) (hi:i+j<=900000) (h0':y≠0) (h1':y∣z) (ht:z / y=t):ai Φ Tryz.prog ⟨71,[.fact p,.fact q],[⟨dS,[(0,0,x)]⟩],false⟩:=
 gL fun _ _ _ _ h0 h1=>(Vh (hp _ _ (get h0)) (hq _ _ (get h1)) hi h0' h1' ht).mono fun _ _ h=>oW hx h
theorem vV {b:Bool}{p1 p2:Nat} (h:∀w v,sS.is v->Φ p1 w (bi 0 2 v)->Φ p2 w (bi 2 2 v)->Φ x w v) (X:Nat->Prop) (w:World) (v:Value) (hv:(bm.agg [.s,.b,.s,.lit (.cb b)]).is v∧∀q,q ∈ [(0,2,p1),(2,2,p2)]->∀w1,Off X w w1->Φ q.2.2 w1 (bi q.1 q.2.1 v)):sS.is v∧∀q,q ∈ [(0,0,x)]->∀w1,Off X w w1->Φ q.2.2 w1 (bi q.1 q.2.1 v):=by
 have hs:sS.is v:=by
  obtain ⟨vs,rfl,h⟩:=hv.1
  match vs,h with
  | [v0,v1,v2,v3],h=>
   obtain ⟨h0,h1,h2,h3,_⟩:=h
   exact ⟨_,rfl,h0,h1,h2,⟨_,h3⟩,trivial⟩
 exact ⟨hs,fun q hq w1 hw=>by
  simp only [List.mem_singleton] at hq
  subst hq
  exact h w1 _ hs (hv.2 (0,2,p1) (by simp) w1 hw) (hv.2 (2,2,p2) (by simp) w1 hw)⟩
theorem Vk {m:Nat} (hl:(aj 10000 m).length=1):nth (aj 10000 m) 0=m:=by
 have h:=Ec hl
 rw [vm (by omega) h.1 h.2];rfl
theorem Ee (h0:y=0):ch z y=Rat.divInt z 1:=by rw [ch,if_pos h0]
theorem Kw (h0:y<0):ch z y=Rat.divInt (-z) (-y):=by rw [mN (by omega),Rat.neg_divInt_neg]
theorem Vl (h0:y=0):z=(ch z y).num:=by rw [Ee h0,vS]
theorem Vm (h0:y=0):(1:Int)=((ch z y).den:Int):=by rw [Ee h0,vT]
theorem rf (h0:0<y) (hl:(aj 10000 y.natAbs).length=1) (hd:nth (aj 10000 y.natAbs) 0=1):y=1:=by
 rw [Vk hl] at hd;omega
theorem Vn (h0:0<y) (hl:(aj 10000 y.natAbs).length=1) (hd:nth (aj 10000 y.natAbs) 0=1):z=(ch z y).num:=by
 rw [rf h0 hl hd,mN (by decide),vS]
theorem Vo (h0:0<y) (hl:(aj 10000 y.natAbs).length=1) (hd:nth (aj 10000 y.natAbs) 0=1):y=((ch z y).den:Int):=by
 rw [rf h0 hl hd,mN (by decide),vT]
theorem Vp (h0:y<0) (hl:(aj 10000 (-y).natAbs).length=1) (hd:nth (aj 10000 (-y).natAbs) 0=1) : -z=(ch z y).num:=by
 rw [Kw h0,rf (by omega) hl hd,vS]
theorem Vq (h0:y<0) (hl:(aj 10000 (-y).natAbs).length=1) (hd:nth (aj 10000 (-y).natAbs) 0=1) : -y=((ch z y).den:Int):=by
 rw [Kw h0,rf (by omega) hl hd,vT]
theorem Ef (h0:0<y):z / da z y=(ch z y).num:=by rw [mN (by omega)];exact DY (by omega)
theorem Eg (h0:0<y):y / da z y=((ch z y).den:Int):=by rw [mN (by omega)];exact DZ (by omega)
theorem Eh (h0:y<0) : -z / da (-z) (-y)=(ch z y).num:=by rw [Kw h0];exact DY (by omega)
theorem Ei (h0:y<0) : -y / da (-z) (-y)=((ch z y).den:Int):=by rw [Kw h0];exact DZ (by omega)
def Vr (z y:Int) (t:Rat) (i j:Nat):List WP:=[fun w v=>an w v z i,fun w v=>an w v y j,fun w v=>an w v 1 2,Arr 1 (cZ (1:Int)) 1,Ptr 1 ((cZ (1:Int)) 0),Ni ((nth (aj 10000 (1:Int).natAbs) 0:Nat):Int),Dw t (i+j+2)]
def Vs:List Out:=[oD 0,oD 1]
def Vt:List Site:=[⟨78,[.fact 1],oT,false⟩,
   ⟨52,[.lit (.ci .i64 1)],[⟨.agg [.s,.lit (.cb false)],[(0,0,2),(0,1,3)]⟩],false⟩,
   ⟨0,[.fact 3],[oL (.ci .i64 1)],.quiet (aD 54)⟩,
   ⟨0,[.fact 3,.lit (.ci .i64 0)],[oP 4],.quiet (aG 54)⟩,
   ⟨0,[.fact 4],[oN 5],.quiet (aM 3)⟩,
   ⟨0,[.fact 5,.lit (.ci .i64 1)],oT,.quiet (ak .eql)⟩]
theorem Vu {z y:Int}{t:Rat}{i j:Nat} (_hk:i+j<=200000) (h0:y=0) (ht:ch z y=t):ai (ph (Vr z y t i j)) Tryz.prog ⟨50,[.fact 0,.fact 1],[⟨sS,[(0,0,6)]⟩],false⟩:=by
 skip
 exact kH Vs [⟨.agg [.s,.b,.s,.lit (.cb false)],[(0,2,0),(2,2,2)]⟩] Vt Tryz.func50 (by kernel_rfl)
  (all_cons (jo dD (decide_eq_true h0))
   (all_cons (Vj rfl rfl)
   (all_cons (oX (n:=1) (sz:=1) (F:=(cZ (1:Int))) rfl Tryz.underlying54 ad)
   (all_cons (oY (n:=1) (sz:=1) 0 (F:=(cZ (1:Int))) Tryz.underlying54 (by kernel_rfl) ad rfl (by decide) rfl)
   (all_cons (oV (by kernel_rfl) ad rfl)
   (all_cons (bW (op:=.eql) ad (fun t w=>by rw [<- show decide (((nth (aj 10000 (1:Int).natAbs) 0:Nat):Int)=1)=true from (by decide +kernel)];rfl))
   all_nil))))))
  (aL [.fact 0 (.agg [.s,.b]),.fact 1 (.agg [.s,.b])] ⟨fun _ _ h=>an.is h,fun _ _ h=>an.is h,trivial⟩) (lJ (vV fun _ _ hs h1 h2=>aQ.join hs (an.more (an.fV h1 (by rw [<- ht];exact Vl h0)) (by omega)) (an.more (an.fV h2 (by rw [<- ht];exact Vm h0)) (by omega))))
def Vv (z y:Int) (t:Rat) (i j:Nat):List WP:=[fun w v=>an w v z i,fun w v=>an w v y j,Arr 1 (cZ y) 1,Ptr 1 ((cZ y) 0),Ni ((nth (aj 10000 y.natAbs) 0:Nat):Int),Dw t (i+j+2)]
def Vw:List Out:=[oD 0,⟨.agg [.s,.lit (.cb false)],[(0,0,1),(0,1,2)]⟩]
def VC:List Site:=[⟨78,[.fact 1],oF,false⟩,
   ⟨0,[.fact 2],[oL (.ci .i64 1)],.quiet (aD 54)⟩,
   ⟨0,[.fact 2,.lit (.ci .i64 0)],[oP 3],.quiet (aG 54)⟩,
   ⟨0,[.fact 3],[oN 4],.quiet (aM 3)⟩,
   ⟨0,[.fact 4,.lit (.ci .i64 1)],oT,.quiet (ak .eql)⟩]
theorem VD {z y:Int}{t:Rat}{i j:Nat} (_hk:i+j<=200000) (h0:0<y) (ht:ch z y=t) (hl:(aj 10000 y.natAbs).length=1) (hd:nth (aj 10000 y.natAbs) 0=1):ai (ph (Vv z y t i j)) Tryz.prog ⟨50,[.fact 0,.fact 1],[⟨sS,[(0,0,5)]⟩],false⟩:=by
 have hp:0<y:=h0
 exact kH Vw [⟨.agg [.s,.b,.s,.lit (.cb false)],[(0,2,0),(2,2,1)]⟩] VC Tryz.func50 (by kernel_rfl)
  (all_cons (jo dD (decide_eq_false (by omega)))
   (all_cons (oX (n:=1) (sz:=1) (F:=(cZ y)) rfl Tryz.underlying54 ad)
   (all_cons (oY (n:=1) (sz:=1) 0 (F:=(cZ y)) Tryz.underlying54 (by kernel_rfl) ad rfl (by decide) rfl)
   (all_cons (oV (by kernel_rfl) ad rfl)
   (all_cons (bW (op:=.eql) ad (fun t w=>by rw [<- show decide (((nth (aj 10000 y.natAbs) 0:Nat):Int)=1)=true from decide_eq_true (by rw [hd];rfl)];rfl))
   all_nil)))))
  (aL [.fact 0 (.agg [.s,.b]),.sub 1 (.agg [.s,.lit (.cb false)]) [(0,1,2)]] ⟨fun _ _ h=>an.is h,⟨fun _ _ h=>an.isA h (decide_eq_false (by omega)),fun _ _ h=>an.arr h (by omega) hl,trivial⟩,trivial⟩) (lJ (vV fun _ _ hs h1 h2=>aQ.join hs (an.more (an.fV h1 (by rw [<- ht];exact Vn h0 hl hd)) (by omega)) (an.more (an.fV h2 (by rw [<- ht];exact Vo h0 hl hd)) (by omega))))
def VE (z y:Int) (t:Rat) (i j:Nat):List WP:=[fun w v=>an w v z i,fun w v=>an w v y j,Arr 1 (cZ y) 1,Ptr 1 ((cZ y) 0),Ni ((nth (aj 10000 y.natAbs) 0:Nat):Int),fun w v=>an w v (da z y) (i+j),fun w v=>an w v (z / (da z y)) i,fun w v=>an w v (y / (da z y)) j,Dw t (i+j+2)]
def VF:List Out:=[oD 0,⟨.agg [.s,.lit (.cb false)],[(0,0,1),(0,1,2)]⟩]
def VG:List Site:=[⟨78,[.fact 1],oF,false⟩,
   ⟨0,[.fact 2],[oL (.ci .i64 1)],.quiet (aD 54)⟩,
   ⟨0,[.fact 2,.lit (.ci .i64 0)],[oP 3],.quiet (aG 54)⟩,
   ⟨0,[.fact 3],[oN 4],.quiet (aM 3)⟩,
   ⟨0,[.fact 4,.lit (.ci .i64 1)],oF,.quiet (ak .eql)⟩,
   ⟨73,[.fact 0,.fact 1],[oD 5],false⟩,
   ⟨71,[.fact 0,.fact 5],[oD 6],false⟩,
   ⟨71,[.fact 1,.fact 5],[oD 7],false⟩]
theorem VH {z y:Int}{t:Rat}{i j:Nat} (hk:i+j<=200000) (h0:0<y) (ht:ch z y=t) (hl:(aj 10000 y.natAbs).length=1) (h1:nth (aj 10000 y.natAbs) 0≠1):ai (ph (VE z y t i j)) Tryz.prog ⟨50,[.fact 0,.fact 1],[⟨sS,[(0,0,8)]⟩],false⟩:=by
 have hp:0<y:=h0
 exact kH VF [⟨.agg [.s,.b,.s,.b],[(0,2,6),(2,2,7)]⟩] VG Tryz.func50 (by kernel_rfl)
  (all_cons (jo dD (decide_eq_false (by omega)))
   (all_cons (oX (n:=1) (sz:=1) (F:=(cZ y)) rfl Tryz.underlying54 ad)
   (all_cons (oY (n:=1) (sz:=1) 0 (F:=(cZ y)) Tryz.underlying54 (by kernel_rfl) ad rfl (by decide) rfl)
   (all_cons (oV (by kernel_rfl) ad rfl)
   (all_cons (bW (op:=.eql) ad (fun t w=>by rw [<- show decide (((nth (aj 10000 y.natAbs) 0:Nat):Int)=1)=false from decide_eq_false (by omega)];rfl))
   (all_cons (rg (i+j) dD dD rfl (by omega) (by omega) (by omega) (q9 hp).symm)
   (all_cons (kG dD dD rfl (by omega) (kB (by omega)) (q4 _ _) rfl)
   (all_cons (kG dD dD rfl (by omega) (kB (by omega)) (q5 _ _) rfl)
   all_nil))))))))
  (aL [.fact 0 (.agg [.s,.b]),.sub 1 (.agg [.s,.lit (.cb false)]) [(0,1,2)]] ⟨fun _ _ h=>an.is h,⟨fun _ _ h=>an.isA h (decide_eq_false (by omega)),fun _ _ h=>an.arr h (by omega) hl,trivial⟩,trivial⟩) (lJ (halves fun _ _ hs h1 h2=>aQ.join hs (an.more (an.fV h1 (by rw [<- ht];exact Ef h0)) (by omega)) (an.more (an.fV h2 (by rw [<- ht];exact Eg h0)) (by omega))))
def VI (z y:Int) (t:Rat) (i j n:Nat):List WP:=[fun w v=>an w v z i,fun w v=>an w v y j,Arr 1 (cZ y) n,Nz n,fun w v=>an w v (da z y) (i+j),fun w v=>an w v (z / (da z y)) i,fun w v=>an w v (y / (da z y)) j,Dw t (i+j+2)]
def VJ:List Out:=[oD 0,⟨.agg [.s,.lit (.cb false)],[(0,0,1),(0,1,2)]⟩]
def VK:List Site:=[⟨78,[.fact 1],oF,false⟩,
   ⟨0,[.fact 2],[oN 3],.quiet (aD 54)⟩,
   ⟨0,[.fact 3,.lit (.ci .i64 1)],oF,.quiet (ak .eql)⟩,
   ⟨73,[.fact 0,.fact 1],[oD 4],false⟩,
   ⟨71,[.fact 0,.fact 4],[oD 5],false⟩,
   ⟨71,[.fact 1,.fact 4],[oD 6],false⟩]
theorem VL {z y:Int}{t:Rat}{i j n:Nat} (hk:i+j<=200000) (h0:0<y) (ht:ch z y=t) (hl:(aj 10000 y.natAbs).length=n) (hl1:n≠1)  : ai (ph (VI z y t i j n)) Tryz.prog ⟨50,[.fact 0,.fact 1],[⟨sS,[(0,0,7)]⟩],false⟩:=by
 have hp:0<y:=h0
 exact kH VJ [⟨.agg [.s,.b,.s,.b],[(0,2,5),(2,2,6)]⟩] VK Tryz.func50 (by kernel_rfl)
  (all_cons (jo dD (decide_eq_false (by omega)))
   (all_cons (fP (sz:=1) (n:=n) (F:=(cZ y)) Tryz.underlying54 ad rfl)
   (all_cons (bW (op:=.eql) ad (fun t w=>by rw [<- show decide (((n:Nat):Int)=1)=false from decide_eq_false (by omega)];rfl))
   (all_cons (rg (i+j) dD dD rfl (by omega) (by omega) (by omega) (q9 hp).symm)
   (all_cons (kG dD dD rfl (by omega) (kB (by omega)) (q4 _ _) rfl)
   (all_cons (kG dD dD rfl (by omega) (kB (by omega)) (q5 _ _) rfl)
   all_nil))))))
  (aL [.fact 0 (.agg [.s,.b]),.sub 1 (.agg [.s,.lit (.cb false)]) [(0,1,2)]] ⟨fun _ _ h=>an.is h,⟨fun _ _ h=>an.isA h (decide_eq_false (by omega)),fun _ _ h=>an.arr h (by omega) hl,trivial⟩,trivial⟩) (lJ (halves fun _ _ hs h1 h2=>aQ.join hs (an.more (an.fV h1 (by rw [<- ht];exact Ef h0)) (by omega)) (an.more (an.fV h2 (by rw [<- ht];exact Eg h0)) (by omega))))
def VM (z y:Int) (t:Rat) (i j:Nat):List WP:=[fun w v=>an w v z i,fun w v=>an w v y j,fun w v=>an w v (-z) i,fun w v=>an w v (-y) j,Arr 1 (cZ (-y)) 1,Ptr 1 ((cZ (-y)) 0),Ni ((nth (aj 10000 (-y).natAbs) 0:Nat):Int),Dw t (i+j+2)]
def VN:List Out:=[oD 0,⟨.agg [.s,.lit (.cb true)],[(0,0,1)]⟩]
def VO:List Site:=[⟨78,[.fact 1],oF,false⟩,
   ⟨80,[.fact 0],[oD 2],false⟩,
   ⟨80,[.fact 1],[⟨.agg [.s,.lit (.cb false)],[(0,0,3),(0,1,4)]⟩],false⟩,
   ⟨0,[.fact 4],[oL (.ci .i64 1)],.quiet (aD 54)⟩,
   ⟨0,[.fact 4,.lit (.ci .i64 0)],[oP 5],.quiet (aG 54)⟩,
   ⟨0,[.fact 5],[oN 6],.quiet (aM 3)⟩,
   ⟨0,[.fact 6,.lit (.ci .i64 1)],oT,.quiet (ak .eql)⟩]
theorem VP {z y:Int}{t:Rat}{i j:Nat} (_hk:i+j<=200000) (h0:y<0) (ht:ch z y=t) (hl:(aj 10000 (-y).natAbs).length=1) (hd:nth (aj 10000 (-y).natAbs) 0=1):ai (ph (VM z y t i j)) Tryz.prog ⟨50,[.fact 0,.fact 1],[⟨sS,[(0,0,7)]⟩],false⟩:=by
 have hp:0 < -y:=by omega
 exact kH VN [⟨.agg [.s,.b,.s,.lit (.cb false)],[(0,2,2),(2,2,3)]⟩] VO Tryz.func50 (by kernel_rfl)
  (all_cons (jo dD (decide_eq_false (by omega)))
   (all_cons (vW dD rfl rfl)
   (all_cons (vU dD rfl rfl h0 hl)
   (all_cons (oX (n:=1) (sz:=1) (F:=(cZ (-y))) rfl Tryz.underlying54 ad)
   (all_cons (oY (n:=1) (sz:=1) 0 (F:=(cZ (-y))) Tryz.underlying54 (by kernel_rfl) ad rfl (by decide) rfl)
   (all_cons (oV (by kernel_rfl) ad rfl)
   (all_cons (bW (op:=.eql) ad (fun t w=>by rw [<- show decide (((nth (aj 10000 (-y).natAbs) 0:Nat):Int)=1)=true from decide_eq_true (by rw [hd];rfl)];rfl))
   all_nil)))))))
  (aL [.fact 0 (.agg [.s,.b]),.fact 1 (.agg [.s,.lit (.cb true)])] ⟨fun _ _ h=>an.is h,fun _ _ h=>an.isA h (decide_eq_true (by omega)),trivial⟩) (lJ (vV fun _ _ hs h1 h2=>aQ.join hs (an.more (an.fV h1 (by rw [<- ht];exact Vp h0 hl hd)) (by omega)) (an.more (an.fV h2 (by rw [<- ht];exact Vq h0 hl hd)) (by omega))))
def VQ (z y:Int) (t:Rat) (i j:Nat):List WP:=[fun w v=>an w v z i,fun w v=>an w v y j,fun w v=>an w v (-z) i,fun w v=>an w v (-y) j,Arr 1 (cZ (-y)) 1,Ptr 1 ((cZ (-y)) 0),Ni ((nth (aj 10000 (-y).natAbs) 0:Nat):Int),fun w v=>an w v (da (-z) (-y)) (i+j),fun w v=>an w v ((-z) / (da (-z) (-y))) i,fun w v=>an w v ((-y) / (da (-z) (-y))) j,Dw t (i+j+2)]
def VR:List Out:=[oD 0,⟨.agg [.s,.lit (.cb true)],[(0,0,1)]⟩]
def VS:List Site:=[⟨78,[.fact 1],oF,false⟩,
   ⟨80,[.fact 0],[oD 2],false⟩,
   ⟨80,[.fact 1],[⟨.agg [.s,.lit (.cb false)],[(0,0,3),(0,1,4)]⟩],false⟩,
   ⟨0,[.fact 4],[oL (.ci .i64 1)],.quiet (aD 54)⟩,
   ⟨0,[.fact 4,.lit (.ci .i64 0)],[oP 5],.quiet (aG 54)⟩,
   ⟨0,[.fact 5],[oN 6],.quiet (aM 3)⟩,
   ⟨0,[.fact 6,.lit (.ci .i64 1)],oF,.quiet (ak .eql)⟩,
   ⟨73,[.fact 2,.fact 3],[oD 7],false⟩,
   ⟨71,[.fact 2,.fact 7],[oD 8],false⟩,
   ⟨71,[.fact 3,.fact 7],[oD 9],false⟩]
theorem VT {z y:Int}{t:Rat}{i j:Nat} (hk:i+j<=200000) (h0:y<0) (ht:ch z y=t) (hl:(aj 10000 (-y).natAbs).length=1) (h1:nth (aj 10000 (-y).natAbs) 0≠1):ai (ph (VQ z y t i j)) Tryz.prog ⟨50,[.fact 0,.fact 1],[⟨sS,[(0,0,10)]⟩],false⟩:=by
 have hp:0 < -y:=by omega
 exact kH VR [⟨.agg [.s,.b,.s,.b],[(0,2,8),(2,2,9)]⟩] VS Tryz.func50 (by kernel_rfl)
  (all_cons (jo dD (decide_eq_false (by omega)))
   (all_cons (vW dD rfl rfl)
   (all_cons (vU dD rfl rfl h0 hl)
   (all_cons (oX (n:=1) (sz:=1) (F:=(cZ (-y))) rfl Tryz.underlying54 ad)
   (all_cons (oY (n:=1) (sz:=1) 0 (F:=(cZ (-y))) Tryz.underlying54 (by kernel_rfl) ad rfl (by decide) rfl)
   (all_cons (oV (by kernel_rfl) ad rfl)
   (all_cons (bW (op:=.eql) ad (fun t w=>by rw [<- show decide (((nth (aj 10000 (-y).natAbs) 0:Nat):Int)=1)=false from decide_eq_false (by omega)];rfl))
   (all_cons (rg (i+j) dD dD rfl (by omega) (by omega) (by omega) (q9 hp).symm)
   (all_cons (kG dD dD rfl (by omega) (kB (by omega)) (q4 _ _) rfl)
   (all_cons (kG dD dD rfl (by omega) (kB (by omega)) (q5 _ _) rfl)
   all_nil))))))))))
  (aL [.fact 0 (.agg [.s,.b]),.fact 1 (.agg [.s,.lit (.cb true)])] ⟨fun _ _ h=>an.is h,fun _ _ h=>an.isA h (decide_eq_true (by omega)),trivial⟩) (lJ (halves fun _ _ hs h1 h2=>aQ.join hs (an.more (an.fV h1 (by rw [<- ht];exact Eh h0)) (by omega)) (an.more (an.fV h2 (by rw [<- ht];exact Ei h0)) (by omega))))
def VU (z y:Int) (t:Rat) (i j n:Nat):List WP:=[fun w v=>an w v z i,fun w v=>an w v y j,fun w v=>an w v (-z) i,fun w v=>an w v (-y) j,Arr 1 (cZ (-y)) n,Nz n,fun w v=>an w v (da (-z) (-y)) (i+j),fun w v=>an w v ((-z) / (da (-z) (-y))) i,fun w v=>an w v ((-y) / (da (-z) (-y))) j,Dw t (i+j+2)]
def VV:List Out:=[oD 0,⟨.agg [.s,.lit (.cb true)],[(0,0,1)]⟩]
def VW:List Site:=[⟨78,[.fact 1],oF,false⟩,
   ⟨80,[.fact 0],[oD 2],false⟩,
   ⟨80,[.fact 1],[⟨.agg [.s,.lit (.cb false)],[(0,0,3),(0,1,4)]⟩],false⟩,
   ⟨0,[.fact 4],[oN 5],.quiet (aD 54)⟩,
   ⟨0,[.fact 5,.lit (.ci .i64 1)],oF,.quiet (ak .eql)⟩,
   ⟨73,[.fact 2,.fact 3],[oD 6],false⟩,
   ⟨71,[.fact 2,.fact 6],[oD 7],false⟩,
   ⟨71,[.fact 3,.fact 6],[oD 8],false⟩]
theorem VX {z y:Int}{t:Rat}{i j n:Nat} (hk:i+j<=200000) (h0:y<0) (ht:ch z y=t) (hl:(aj 10000 (-y).natAbs).length=n) (hl1:n≠1)  : ai (ph (VU z y t i j n)) Tryz.prog ⟨50,[.fact 0,.fact 1],[⟨sS,[(0,0,9)]⟩],false⟩:=by
 have hp:0 < -y:=by omega
 exact kH VV [⟨.agg [.s,.b,.s,.b],[(0,2,7),(2,2,8)]⟩] VW Tryz.func50 (by kernel_rfl)
  (all_cons (jo dD (decide_eq_false (by omega)))
   (all_cons (vW dD rfl rfl)
   (all_cons (vU dD rfl rfl h0 hl)
   (all_cons (fP (sz:=1) (n:=n) (F:=(cZ (-y))) Tryz.underlying54 ad rfl)
   (all_cons (bW (op:=.eql) ad (fun t w=>by rw [<- show decide (((n:Nat):Int)=1)=false from decide_eq_false (by omega)];rfl))
   (all_cons (rg (i+j) dD dD rfl (by omega) (by omega) (by omega) (q9 hp).symm)
   (all_cons (kG dD dD rfl (by omega) (kB (by omega)) (q4 _ _) rfl)
   (all_cons (kG dD dD rfl (by omega) (kB (by omega)) (q5 _ _) rfl)
   all_nil))))))))
  (aL [.fact 0 (.agg [.s,.b]),.fact 1 (.agg [.s,.lit (.cb true)])] ⟨fun _ _ h=>an.is h,fun _ _ h=>an.isA h (decide_eq_true (by omega)),trivial⟩) (lJ (halves fun _ _ hs h1 h2=>aQ.join hs (an.more (an.fV h1 (by rw [<- ht];exact Eh h0)) (by omega)) (an.more (an.fV h2 (by rw [<- ht];exact Ei h0)) (by omega))))
end
end Go.Proofs.YtbokonbbokhjlaaGreat.Sym
namespace Go.Proofs.YtbokonbbokhjlaaGreat
theorem Sym.lK {Φ:PH}{v u:Value}{z y:Int}{i j:Nat}{w:World} (h0:Φ 0=fun w v=>an w v z i) (h1:Φ 1=fun w v=>an w v y j) (hx:an w v z i) (hy:an w u y j):Sym.cB Φ (fun _=>False) w [.fact 0,.fact 1] [v,u]:=
 ⟨Sym.Ej h0 (fun _ _ _ g h=>an.kp h g) hx,Sym.Ej h1 (fun _ _ _ g h=>an.kp h g) hy,trivial⟩
theorem VY {v u:Value}{z y:Int}{t:Rat}{i j:Nat}{w:World} (hx:an w v z i) (hy:an w u y j) (hk:i+j<=200000) (ht:ch z y=t):Calls Tryz.prog 50 #[v,u] w (lH w t (i+j+2)):=by
 rcases Int.lt_trichotomy y 0 with h | h | h
 ·by_cases hl:(aj 10000 (-y).natAbs).length=1
  ·by_cases hd:nth (aj 10000 (-y).natAbs) 0=1
   ·exact Sym.kI (Sym.VP hk h ht hl hd) rfl (vs:=[v,u]) (Sym.lK rfl rfl hx hy)
   ·exact Sym.kI (Sym.VT hk h ht hl hd) rfl (vs:=[v,u]) (Sym.lK rfl rfl hx hy)
  ·exact Sym.kI (Sym.VX hk h ht rfl hl) rfl (vs:=[v,u]) (Sym.lK rfl rfl hx hy)
 ·exact Sym.kI (Sym.Vu hk h ht) rfl (vs:=[v,u]) (Sym.lK rfl rfl hx hy)
 ·by_cases hl:(aj 10000 y.natAbs).length=1
  ·by_cases hd:nth (aj 10000 y.natAbs) 0=1
   ·exact Sym.kI (Sym.VD hk h ht hl hd) rfl (vs:=[v,u]) (Sym.lK rfl rfl hx hy)
   ·exact Sym.kI (Sym.VH hk h ht hl hd) rfl (vs:=[v,u]) (Sym.lK rfl rfl hx hy)
  ·exact Sym.kI (Sym.VL hk h ht rfl hl) rfl (vs:=[v,u]) (Sym.lK rfl rfl hx hy)
end Go.Proofs.YtbokonbbokhjlaaGreat
namespace Go.Proofs.YtbokonbbokhjlaaGreat.Sym
open Go.RowKit
section
variable {Φ:PH}
theorem VZ {p q x x1 x2 i j:Nat}{z:Int}{y:Int}{t:Rat} (hp:∀w v,Φ p w v->an w v z i) (hq:∀w v,Φ q w v->an w v y j) (hx:Φ x=Dw t (i+j+2)) (hx1:Φ x1=fun w v=>an w v t.num (i+j+2)) (hx2:Φ x2=fun w v=>an w v (t.den:Int) (i+j+2)) (hk:i+j<=200000) (ht:ch z y=t):ai Φ Tryz.prog ⟨50,[.fact p,.fact q],[⟨sS,[(0,0,x),(0,2,x1),(2,2,x2)]⟩],false⟩:=
 gL fun _ _ _ _ h0 h1=>(VY (hp _ _ (get h0)) (hq _ _ (get h1)) hk ht).mono fun _ _ h=>DQ hx hx1 hx2 h
theorem Ek {p x:Nat}{t z:Int} (hp:∀w v,Φ p w v->v = .int .i64 z) (hx:Φ x=fun w v=>an w v t 2) (h1 : -9223372036854775808<=z) (h2:z<=9223372036854775807) (ht:z=t):ai Φ Tryz.prog ⟨52,[.fact p],[⟨dS,[(0,0,x)]⟩],false⟩:=
 gj fun _ w v h0=>by
  obtain rfl:=hp _ _ (get h0)
  exact (tD z h1 h2 ht).mono fun _ _ h=>oW hx h
def abp (x y:Int) (t:Rat):List WP:=[Ni x,Ni y,fun w v=>an w v x 2,fun w v=>an w v y 2,Dw t (2+2+2),fun w v=>an w v t.num (2+2+2),fun w v=>an w v (t.den:Int) (2+2+2)]
def V3:List Out:=[oN 0,oN 1]
def V4:List Site:=[⟨52,[.fact 0],[oD 2],false⟩,
   ⟨52,[.fact 1],[oD 3],false⟩,
   ⟨50,[.fact 2,.fact 3],[⟨.agg [.s,.b,.s,.b],[(0,0,4),(0,2,5),(2,2,6)]⟩],false⟩]
theorem ofr {x y:Int}{t:Rat} (x1 : -9223372036854775808<=x) (x2:x<=9223372036854775807) (y1 : -9223372036854775808<=y) (y2:y<=9223372036854775807) (ht:ch x y=t):ai (ph (abp x y t)) Tryz.prog ⟨61,[.fact 0,.fact 1],[oQ 4],false⟩:=
 kH V3 [oQ 4] V4 Tryz.func61 (by kernel_rfl)
  (all_cons (Ek ad rfl x1 x2 rfl)
   (all_cons (Ek ad rfl y1 y2 rfl)
   (all_cons (VZ dD dD rfl rfl rfl (by omega) ht)
   all_nil)))
  (aL [.fact 0 (.one (.i)),.fact 1 (.one (.i))] ⟨fun _ _ h=>⟨⟨_,h⟩,fun _ e=>by rw [h] at e;cases e⟩,fun _ _ h=>⟨⟨_,h⟩,fun _ e=>by rw [h] at e;cases e⟩,trivial⟩) bc
theorem _root_.Go.Proofs.YtbokonbbokhjlaaGreat.TY (x y:Int){t:Rat}{w:World} (x1 : -9223372036854775808<=x) (x2:x<=9223372036854775807) (y1 : -9223372036854775808<=y) (y2:y<=9223372036854775807) (ht:ch x y=t):Calls Tryz.prog 61 #[.int .i64 x,.int .i64 y] w (lH w t 6):=by
 exact kI (ofr x1 x2 y1 y2 ht) rfl (vs:=[.int .i64 x,.int .i64 y]) ⟨fun _ _=>rfl,fun _ _=>rfl,trivial⟩
theorem _root_.Go.Proofs.YtbokonbbokhjlaaGreat.af.nor {w:World}{v:Value}{z:Int}{k:Nat} (h:af w v z k):gh w v z:=h.1
theorem Un {p q i j:Nat}{z y:Int}{r:Bool} (hp:∀w v,Φ p w v->an w v z i) (hq:∀w v,Φ q w v->af w v y j) (hk:i<=1000000) (he:z=y) (hr:true=r):ai Φ Tryz.prog ⟨82,[.fact p,.fact q],[oL (.cb r)],false⟩:=
 gL fun _ _ _ _ h0 h1=>(hr▸Ve (hp _ _ (get h0)) hk (he▸(hq _ _ (get h1)).1)).mono fun _ _ h=>vY h
theorem d4.fst {w:World}{v:Value}{q:Rat}{k:Nat} (h:d4 w v q k):af w (bi 0 2 v) q.num k:=by obtain ⟨_,_,_,_,_,_,_,_,rfl,h1,_⟩:=h;exact h1
theorem d4.snd {w:World}{v:Value}{q:Rat}{k:Nat} (h:d4 w v q k):af w (bi 2 2 v) (q.den:Int) k:=by obtain ⟨_,_,_,_,_,_,_,_,rfl,_,h2⟩:=h;exact h2
theorem cH.i {w:World}{v:Value}{b:Bool}{xs:List Nat} (k:Nat) (h:cH w v b xs) (hk:xs.length<=k):aC w v (sg b (Proofs.YtbokonbbokhjlaaGreat.val 4294967296 xs)) k:=by
 obtain ⟨s,rfl,h1,h2⟩:=h
 exact ⟨_,_,_,rfl,Num.row h1 h2 k hk,rfl⟩
theorem fA.fst {w:World}{v:Value}{b b':Bool}{xs ys:List Nat} (h:fA w v b xs b' ys):cH w (bi 0 2 v) b xs:=by obtain ⟨s,s',rfl,h1,h2,h3,h4⟩:=h;exact ⟨_,rfl,h1,h2⟩
theorem fA.snd {w:World}{v:Value}{b b':Bool}{xs ys:List Nat} (h:fA w v b xs b' ys):cH w (bi 2 2 v) b' ys:=by obtain ⟨s,s',rfl,h1,h2,h3,h4⟩:=h;exact ⟨_,rfl,h3,h4⟩
theorem fA.join {w:World}{v:Value}{b b':Bool}{xs ys:List Nat} (hs:qS.is v) (h1:cH w (bi 0 2 v) b xs) (h2:cH w (bi 2 2 v) b' ys):fA w v b xs b' ys:=by
 obtain ⟨vs,rfl,h⟩:=hs
 match vs,h with
 | [v0,v1,v2,v3],h=>
  obtain ⟨s,e,a1,a2⟩:=h1
  obtain ⟨s',e',a3,a4⟩:=h2
  have e1:(Value.agg #[v0,v1]) = .agg #[.bool b,s]:=e
  have e2:(Value.agg #[v2,v3]) = .agg #[.bool b',s']:=e'
  simp only [Value.agg.injEq,Array.mk.injEq,List.cons.injEq,and_true] at e1 e2
  obtain ⟨rfl,rfl⟩:=e1
  obtain ⟨rfl,rfl⟩:=e2
  exact ⟨_,_,rfl,a1,a2,a3,a4⟩
def rh (w:World) (v:Value) (xs:List Nat):Prop:=Sl w .u32 v xs∧All 4294967296 xs
theorem rh.kp {w w':World}{v:Value}{xs:List Nat} (h:rh w v xs) (g:Kp w w'):rh w' v xs:=⟨h.1.kp g,h.2⟩
theorem cH.sl {w:World}{v:Value}{b:Bool}{xs:List Nat} (h:cH w v b xs):rh w (bi 1 1 v) xs:=by obtain ⟨s,rfl,h1,h2⟩:=h;exact ⟨h1,h2⟩
theorem cH.is' {w:World}{v:Value}{b:Bool}{xs:List Nat} (h:cH w v b xs):(bm.agg [.lit (.cb b),.s]).is v:=by
 obtain ⟨s,rfl,h1,h2⟩:=h
 obtain ⟨p,c,rfl,-⟩:=h1
 exact ⟨[_,_],rfl,rfl,⟨_,_,_,rfl⟩,trivial⟩
theorem fA.qv {w:World}{v:Value}{b b':Bool}{xs ys:List Nat} (k:Nat){z u:Int} (h:fA w v b xs b' ys) (h1:xs.length<=k) (h2:ys.length<=k) (hz:sg b (Proofs.YtbokonbbokhjlaaGreat.val 4294967296 xs)=z) (hu:sg b' (Proofs.YtbokonbbokhjlaaGreat.val 4294967296 ys)=u):QV w v z u k:=
 QV.join (fA.is h) (hz▸cH.i k (fA.fst h) h1) (hu▸cH.i k (fA.snd h) h2) (Nat.le_refl _) (Nat.le_refl _)
end
end Go.Proofs.YtbokonbbokhjlaaGreat.Sym
