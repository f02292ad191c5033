/- Rows of polynomials that -/
import Derived.Test.YtomamliepbhegaaGreatPolL
namespace Go.Proofs.YtomamliepbhegaaGreat.Sym
open Go.RowKit
variable {k n:Nat}{w:World}
theorem Kk {z:Nat->Int}{X:Nat->Prop}{s:Value} (hn:0<n) (A:∀w1,Off X w w1->Rw 2 (fun j w v=>aE w v (z j) k) n w1 s):∃g,blk s=some g∧¬X g∧g<w.heap.size:=by
 have cell:∀{w:World}{l:List Value}{x:Int},aE w (.agg l.toArray) x k->∃bb sl,l = [.bool bb,sl]:=fun h=>by
  obtain ⟨bb,p,n,c,e,_⟩:=h.open
  exact ⟨bb,.slice p n c,by simpa using e⟩
 obtain ⟨p,c,rfl,hc,he⟩:=A w (Off.refl _ _)
 obtain ⟨b,off,rfl,l,h1,h2,h3⟩:=he 0 hn
 obtain ⟨bb,sl,rfl⟩:=cell h3
 have hcl:=h2 0 _ rfl
 refine ⟨b,rfl,fun hX=>?_,World.block_lt_of_cell? _ _ hcl⟩
 have hg:w.grownBy (w.setCells b (off+0*2+0) [.slice none 0 0]) (some b):=jV b _ _ _
 have hgr:w.grownBy (w.setCell ⟨b,off+0*2+0,none⟩ (.slice none 0 0)) (some b):=hg
 have hoff:Off X w (w.setCell ⟨b,off+0*2+0,none⟩ (.slice none 0 0)):=by
  refine ⟨⟨hgr.size,fun a k n _ ha=>?_⟩,fun k hk hn=>hgr.block k hk fun e=>?_⟩
  ·rw [World.cell?_setCell_other _ _ _ _ (fun e=>by rw [<- e,hcl] at ha;cases ha)]
   exact ha
  ·obtain rfl:k=b:=Option.some.inj e
   exact hn hX
 obtain ⟨p',c',e,hc',he'⟩:=A _ hoff
 obtain ⟨b',off',e2,l',h1',h2',h3'⟩:=he' 0 hn
 simp only [Value.slice.injEq] at e
 obtain ⟨e1,-,-⟩:=e
 rw [e2] at e1
 simp only [Option.some.injEq,Addr.mk.injEq] at e1
 obtain ⟨rfl,rfl,_⟩:=e1
 obtain ⟨bb',sl',rfl⟩:=cell h3'
 have hc2:=h2' 0 _ rfl
 rw [World.cell?_setCell_same _ _ _ hcl] at hc2
 cases hc2
theorem Rw.own' {sz:Nat}{F:PH}{w1:World}{v:Value} (h:Rw sz F n w v) (hK:∀i w w1 v,Kp w w1->F i w v->F i w1 v) (k:Kp w w1) (hb:0<n->∀g,blk v=some g->w1.heap[g]?=w.heap[g]?):Rw sz F n w1 v:=by
 obtain ⟨p,c,rfl,hc,he⟩:=h
 refine ⟨p,c,rfl,hc,fun i hi=>?_⟩
 obtain ⟨b,off,rfl,l,h1,h2,h3⟩:=he i hi
 refine ⟨b,off,rfl,l,h1,fun j u hj=>?_,hK _ _ _ _ k h3⟩
 rw [World.cell?_of_block (hb (by omega) b rfl)];exact h2 j u hj
def Kl (b:Option Nat) (zz:Nat->Nat->Int) (ln:Nat->Nat) (k:Nat) (i:Nat) (w:World) (v:Value):Prop:=∃s,v = .agg #[s]∧Rw 2 (fun j w v=>aE w v (zz i j) k) (ln i) w s∧(0<ln i->∀g,blk s=some g->b≠some g)
def dY (e:TypeId) (zz:Nat->Nat->Int) (ln:Nat->Nat) (k n:Nat) (w:World) (v:Value):Prop:=ah 1 e (Kl (blk v) zz ln k) n w v
section
variable {e:TypeId}{zz:Nat->Nat->Int}{ln:Nat->Nat}{v y:Value}{X:Nat->Prop}
theorem dY.rw (h:dY e zz ln k n w v):Rw 1 (bS zz ln k) n w v:=Rw.to (sz:=1) (ah.rw h) fun _ _ _ _ ⟨s,e,h,_⟩=>⟨s,e,h⟩
theorem dY.nil (e:TypeId) (zz:Nat->Nat->Int) (ln:Nat->Nat) (k:Nat) (w:World):dY e zz ln k 0 w (.slice none 0 0):=ah.nil _ _ _ _
theorem dY.is (h:dY e zz ln k n w v):(bK.one .s).is v:=by
 obtain ⟨p,c,rfl,_⟩:=h.rw
 exact ⟨⟨_,_,_,rfl⟩,fun _ h=>by cases h⟩
theorem aeX (hL:∀g,blk y=some g->¬X g) (A:∀w1,Off X w w1->dY e zz ln k n w1 y){rows:List (List Value)} (r1:rows.length=n) (r2:∀r,r ∈ rows->r.length=1) (r3:ei 1 e w y n rows.flatten){i:Nat}{r:List Value} (hr:rows[i]?=some r) (w1:World) (hw:Off X w w1):Kl (blk y) zz ln k i w1 (.agg r.toArray):=by
 have hi:i<n:=by have:=(List.getElem?_eq_some_iff.1 hr).1;omega
 have h0:ah 1 e (fun i _ v=>∃r,rows[i]?=some r∧v = .agg r.toArray) n w y:=⟨rows,r1,r2,r3,fun i r hr=>⟨r,hr,rfl⟩⟩
 obtain ⟨p,c,rfl,-,he⟩:=ah.rw h0
 obtain ⟨b,off,rfl,l,h1,h2,r',h3,h4⟩:=he i hi
 rw [hr] at h3
 obtain rfl:=Option.some.inj h3
 obtain rfl:l=r:=by simpa using h4
 obtain ⟨p',c',e5,-,he'⟩:=ah.rw (A w1 hw)
 simp only [Value.slice.injEq,true_and] at e5
 obtain ⟨rfl,rfl⟩:=e5
 obtain ⟨b',off',e6,l',h1',h2',h3'⟩:=he' i hi
 simp only [Option.some.injEq,Addr.mk.injEq,and_true] at e6
 obtain ⟨rfl,rfl⟩:=e6
 match l,h1,l',h1' with
 | [u],_,[u'],_=>
  have hc:=h2 0 u rfl
  have hc':=h2' 0 u' rfl
  rw [World.cell?_of_block (hw.2 b (World.block_lt_of_cell? _ _ hc) (hL b rfl)),hc] at hc'
  obtain rfl:=Option.some.inj hc'
  exact h3'
end
theorem aeY:(Tryz.prog.info? 28).map (fun i=>(i.zero,i.size,i.bytes))=some (some (.slice none 0 0),1,24):=by kernel_rfl
theorem GU {Φ:PH}{p q x j:Nat}{zz:Nat->Nat->Int}{ln:Nat->Nat}
  (hp:∀w v,Φ p w v->dY 28 zz ln k n w v) (hq:∀w v,Φ q w v->bS zz ln k n w v) (hn:n<=1000000) (hx:Φ x=dY 28 zz ln k (n+1)) :
  aj Φ Tryz.prog ⟨0,[.fact p,.row 1 [q]],[oS x],.loose [] j 0 (eF 59 59)⟩:=fun X L w ac o ys hX hL hLX hm ha hb hbs=>by
 obtain ⟨i0,hi,hz0,hz1,hz2⟩:=info_parts aeY
 obtain ⟨y,u,hys⟩:∃y u,ys.map ac.eval = [y,u]:=by
  match ys.map ac.eval,ha with
  | [y,u],_=>exact ⟨y,u,rfl⟩
 rw [show List.map ac.eval ys = [y,u] from hys] at ha hbs
 obtain ⟨a,b,ho,rfl,ea,eb⟩:=rN hm hys
 obtain ⟨h1,⟨g,hu,⟨l,hl,hcells,hl3⟩,-⟩,-⟩:=ha
 obtain ⟨-,⟨g2,hu2,⟨l2,hl2,aeZ,hl4⟩,-⟩,-⟩:=hbs
 have hA:∀w1,Off X w w1->dY 28 zz ln k n w1 y:=fun w1 hw=>hp _ _ (h1 w1 hw)
 obtain ⟨rows,r1,r2,r3,r4⟩:=hA w (Off.refl _ _)
 have hu':u = .slice (some ⟨g,0,none⟩) 1 1:=hu
 have yR:u = .slice (some ⟨g2,0,none⟩) 1 1:=hu2
 rw [hu'] at yR
 simp only [Value.slice.injEq,Option.some.injEq,Addr.mk.injEq,and_true] at yR
 obtain rfl:=yR
 obtain ⟨s,rfl⟩:∃s,l = [s]:=by
  match l,hl with
  | [s],_=>exact ⟨s,rfl⟩
 obtain ⟨s2,rfl⟩:∃s,l2 = [s]:=by
  match l2,hl2 with
  | [s],_=>exact ⟨s,rfl⟩
 have hss:s=s2:=by
  have h2:=hcells 0 s rfl
  have h3:=aeZ 0 s2 rfl
  rw [h2] at h3
  exact Option.some.inj h3
 subst hss
 have hC:∀w1,Off (fun k=>X k∨L k) w w1->Rw 2 (fun j w v=>aE w v (zz n j) k) (ln n) w1 s:=fun w1 hw=>by
  obtain ⟨s',e',h'⟩:=hq _ _ (hl4 w1 hw)
  obtain rfl:s=s':=by simpa using e'
  exact h'
 have hsl:∃p n c,s = .slice p n c:=by
  obtain ⟨p,c,e,_⟩:=hC w (Off.refl _ _)
  exact ⟨_,_,_,e⟩
 have hone:∀v,v ∈ [s]->v.oneCell'=true∧cX v:=fun v hv=>by
  obtain rfl:=List.mem_singleton.1 hv
  obtain ⟨p,n,c,rfl⟩:=hsl
  exact ⟨rfl,fun _ _ _ h=>by cases h⟩
 obtain ⟨v',w',hr,ho',hg,hbl⟩:=Kh 59 o.type Tryz.underlying59 hi hz0 hz1 hz2 rfl (by omega) (by omega) (fun x hx=>by
  have:x = .slice none 0 0:=by simpa [Value.cells] using hx
  subst this
  exact fun _ _ _ h=>by cases h) r3 ⟨g,0,none⟩ 1 [s] hl (fun k v hk=>by rw [Addr.add_lit];exact hcells k v hk) (fun v hv=>(hone v hv).1) (fun v hv=>(hone v hv).2) hn
 have hkp:=r3.kp hg
 have hLy:∀m,y.ownBlock=some m->L m:=fun m hm'=>hb a m rfl (by rw [ea,gW];exact hm')
 have hv':∀m,v'.ownBlock=some m->L m∨m=w.heap.size:=fun m hm'=>by
  rcases hbl with h | h
  ·exact .inl (hLy m (by rw [<- h];exact hm'))
  ·rw [hm'] at h;exact .inr (Option.some.inj h)
 have hrun:=pI (o:=o) (P:=Tryz.prog) ho ea (by rw [eb,hu']) hr
 refine ⟨v',w',y.ownBlock,hrun,hg,hLy,hkp,fun m k v hm' h4 h5=>?_,fun m hm'=>?_,?_⟩
 ·have hbk:=hg.block m (World.block_lt_of_cell? _ _ h4) (fun e'=>hm' m e'.symm rfl)
  refine ⟨by rw [World.cell?_of_block hbk];exact h4,?_⟩
  simp only [World.frozen?,hbk] at h5 ⊢
  exact h5
 ·rw [gW] at hm'
  refine ⟨ho'.lt m hm',?_⟩
  rcases hv' m hm' with h | h
  ·exact .inl h
  ·exact .inr (by omega)
 ·obtain ⟨p1,n1,c1,rfl⟩:∃p n c,v' = .slice p n c:=by
   rcases ho'.1.2 with ⟨h,-⟩ | ⟨_,_,_,h,-⟩ <;> exact ⟨_,_,_,h⟩
  refine ⟨⟨⟨⟨_,_,_,rfl⟩,fun _ h=>by cases h⟩,fun s' hs w1 hw=>?_⟩,trivial⟩
  simp only [List.mem_singleton] at hs
  subst hs
  show Φ x w1 _
  rw [hx]
  have same:∀m,m<w.heap.size->¬X m->y.ownBlock≠some m->w1.heap[m]?=w.heap[m]?:=fun m h2 h3 h4=>(hw.2 m (Nat.lt_of_lt_of_le h2 hg.size) h3).trans (hg.block m h2 fun e=>h4 e.symm)
  have hKI:∀(z:Nat->Int),∀i w w1 v,Kp w w1->aE w v (z i) k->aE w1 v (z i) k:=fun _ _ _ _ _ h2 h3=>aE.kp h3 h2
  refine ⟨rows ++ [[s]],by simp [r1],fun r hr=>?_,?_,fun i r hr=>?_⟩
  ·rcases List.mem_append.1 hr with hr | hr
   ·exact r2 r hr
   ·rw [List.mem_singleton.1 hr];rfl
  ·rw [List.flatten_append,List.flatten_singleton]
   refine ho'.keep fun m hm'=>hw.2 m (ho'.lt m hm') fun hx'=>?_
   rcases hv' m hm' with h | h
   ·exact hLX m h hx'
   ·have:=hX m hx';omega
  ·rw [List.getElem?_append] at hr
   split at hr
   ·have B:=aeX (fun m hm'=>hLX m (hLy m (by rw [<- gW];exact hm'))) hA r1 r2 r3 hr
    obtain ⟨s0,e0,hR,hd⟩:=B w (Off.refl _ _)
    have N:0<ln i->∃m,blk s0=some m∧¬X m∧m<w.heap.size:=fun hp0=>Kk hp0 fun w2 hw2=>by
     obtain ⟨s2,e2,hR2,-⟩:=B w2 hw2
     rw [e0] at e2
     obtain rfl:s0=s2:=by simpa using e2
     exact hR2
    refine ⟨s0,e0,Rw.own' hR (hKI _) (hkp.trans hw.1) fun hp0 m hm'=>?_,fun hp0 m hm'=>?_⟩
    ·obtain ⟨m',h2,h3,h4⟩:=N hp0
     rw [hm'] at h2
     obtain rfl:=Option.some.inj h2
     exact same m h4 h3 (by rw [<- gW];exact hd hp0 m hm')
    ·obtain ⟨m',h2,h3,h4⟩:=N hp0
     rw [hm'] at h2
     obtain rfl:=Option.some.inj h2
     rw [gW]
     show (Value.slice p1 n1 c1).ownBlock≠some m
     rcases hbl with h | h
     ·rw [h,<- gW];exact hd hp0 m hm'
     ·rw [h];intro e;have:=Option.some.inj e;omega
   ·have hi':i=n:=by
     have:=(List.getElem?_eq_some_iff.1 hr).1
     simp at this
     omega
    subst hi'
    rw [r1,Nat.sub_self] at hr
    simp at hr
    subst hr
    have N:0<ln i->∃m,blk s=some m∧¬(X m∨L m)∧m<w.heap.size:=fun hp0=>Kk hp0 hC
    refine ⟨s,rfl,Rw.own' (hC w (Off.refl _ _)) (hKI _) (hkp.trans hw.1) fun hp0 m hm'=>?_,fun hp0 m hm'=>?_⟩
    ·obtain ⟨m',h2,h3,h4⟩:=N hp0
     rw [hm'] at h2
     obtain rfl:=Option.some.inj h2
     exact same m h4 (fun h=>h3 (.inl h)) fun e=>h3 (.inr (hLy m e))
    ·obtain ⟨m',h2,h3,h4⟩:=N hp0
     rw [hm'] at h2
     obtain rfl:=Option.some.inj h2
     rw [gW]
     intro e
     rcases hv' m e with h | h
     ·exact h3 (.inr h)
     ·omega
end Go.Proofs.YtomamliepbhegaaGreat.Sym
