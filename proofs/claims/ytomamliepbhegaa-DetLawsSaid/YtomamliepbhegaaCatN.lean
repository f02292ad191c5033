/- Rows whose elements are slices that lie elsewhere, told by any predicate that says what lies there; a row of the call's own of such slices, and append to it. A row of slices is put into new memory: append to nothing. A row of the call's own of slices: told with its elements; made, stored into, read, many at once put behind it. slices.Grow of nothing; slices.Concat of rows of slices. -/
import Derived.Test.YtomamliepbhegaaRowP
import Derived.Test.YtomamliepbhegaaCatA
import Derived.Test.YtomamliepbhegaaPolD
import Derived.Test.YtomamliepbhegaaCatB
import Derived.Test.YtomamliepbhegaaDivT
set_option maxRecDepth 100000
namespace Go.Proofs.Ytomamliepbhegaa.Sym
open Go.RowKit
def cg (F:WP):Prop:=∀(X Y:Nat->Prop) (w:World) (s:Value),(∀w1,Off X w w1->F w1 s)->(∀w1,Off Y w w1->F w1 s)->∀w1,Off (fun k=>X k∨Y k) w w1->F w1 s
def ah (G:PH) (i:Nat) (w:World) (u:Value):Prop:=∃s,u = .agg #[s]∧G i w s
def aE (e:TypeId) (F:PH) (n:Nat) (w:World) (v:Value):Prop:=aC 1 e (fun i w u=>∃s,u = .agg #[s]∧∀w2,Off (fun k=>blk v=some k) w w2->F i w2 s) n w v
section
variable {sz n:Nat}{F G:PH}{X:Nat->Prop}{w:World}{s:Value}{z0:Value}
theorem iZ (hn:0<n) (hc:∀i w (l:List Value),F i w (.agg l.toArray)->l.length=sz->∃u,l[0]?=some u∧u≠z0∧∀k n,u≠.int k n) (A:∀w1,Off X w w1->Rw sz F n w1 s):∃g,blk s=some g∧¬X g∧g<w.heap.size:=by
 obtain ⟨p,c,rfl,hc',he⟩:=A w (Off.refl _ _)
 obtain ⟨b,off,rfl,l,h1,h2,h3⟩:=he 0 hn
 obtain ⟨u,hu,hne,hni⟩:=hc _ _ _ h3 h1
 have hcl:=h2 0 _ hu
 refine ⟨b,rfl,fun hX=>?_,World.block_lt_of_cell? _ _ hcl⟩
 have hg:w.grownBy (w.setCells b (off+0*sz+0) [z0]) (some b):=fi b _ _ _
 have hgr:w.grownBy (w.setCell ⟨b,off+0*sz+0,none⟩ z0) (some b):=hg
 have hoff:Off X w (w.setCell ⟨b,off+0*sz+0,none⟩ z0):=by
  refine ⟨⟨hgr.size,fun a k n _ ha=>?_⟩,fun k hk hn=>hgr.block k hk fun e=>?_⟩
  ·rw [World.cell?_setCell_other _ _ _ _ (fun e=>by rw [<- e,hcl] at ha;exact hni _ _ (Option.some.inj ha))]
   exact ha
  ·obtain rfl:k=b:=Option.some.inj e
   exact hn hX
 obtain ⟨p',c',e,_,he'⟩:=A _ hoff
 obtain ⟨b',off',e2,l',h1',h2',h3'⟩:=he' 0 hn
 simp only [Value.slice.injEq] at e
 obtain ⟨e1,-,-⟩:=e
 rw [e2] at e1
 simp only [Option.some.injEq,Addr.mk.injEq] at e1
 obtain ⟨rfl,rfl,_⟩:=e1
 obtain ⟨u',hu',hne',_⟩:=hc _ _ _ h3' h1'
 have hc2:=h2' 0 _ hu'
 rw [World.cell?_setCell_same _ _ _ hcl] at hc2
 exact hne' (Option.some.inj hc2).symm
theorem rE (hK:∀i w w1 v,Kp w w1->F i w v->F i w1 v) (hc:∀i w (l:List Value),F i w (.agg l.toArray)->l.length=sz->∃u,l[0]?=some u∧u≠z0∧∀k n,u≠.int k n):cg (Rw sz F n):=fun X Y w s hX hY w1 hw=>by
 refine Rw.own' (hX w (Off.refl _ _)) hK hw.1 fun hn g hg=>?_
 obtain ⟨g1,e1,x1,l1⟩:=iZ hn hc hX
 obtain ⟨g2,e2,x2,l2⟩:=iZ hn hc hY
 rw [hg] at e1 e2
 obtain rfl:=Option.some.inj e1
 obtain rfl:=Option.some.inj e2
 exact hw.2 g l1 fun h=>h.elim x1 x2
theorem mg (hS:∀i w s,G i w s->∃p n c,s = .slice p n c) (i:Nat) (w:World) (l:List Value) (h:ah G i w (.agg l.toArray)) (_:l.length=1):∃u,l[0]?=some u∧u≠.bool true∧∀k n,u≠.int k n:=by
 obtain ⟨s,e,h⟩:=h
 obtain ⟨p,m,c,rfl⟩:=hS _ _ _ h
 obtain rfl:l = [.slice p m c]:=by simpa using e
 exact ⟨_,rfl,fun h=>by (cases h),fun _ _ h=>by cases h⟩
theorem rG (hS:∀i w s,G i w s->∃p n c,s = .slice p n c) (hG:∀i,cg (G i)):cg (Rw 1 (ah G) n):=fun X Y w s hX hY w1 hw=>by
 have sub:∀{Z:Nat->Prop},(∀w1,Off Z w w1->Rw 1 (ah G) n w1 s)->∀i,i<n->∀(b off:Nat) (u:Value),s = .slice (some ⟨b,off,none⟩) n (match s with | .slice _ _ c=>c | _=>0)->w.cell? ⟨b,off+i*1+0,none⟩=some u->∀w2,Off Z w w2->G i w2 u:=fun {Z} hZ i hi b off u hs hu w2 hw2=>by
  obtain ⟨g,e,x,l⟩:=iZ (by omega) (mg hS) hZ
  obtain ⟨p,c,es,_,he⟩:=hZ w2 hw2
  obtain ⟨b',off',ep,l',h1,h2,s',e',h3⟩:=he i hi
  rw [hs] at es e
  simp only [Value.slice.injEq] at es
  rw [ep] at es
  simp only [Option.some.injEq,Addr.mk.injEq,and_true] at es
  obtain ⟨⟨rfl,rfl⟩,-⟩:=es
  obtain rfl:=Option.some.inj e
  obtain rfl:l' = [s']:=by simpa using e'
  have hc:=h2 0 s' rfl
  rw [World.cell?_of_block (hw2.2 b l x),hu] at hc
  obtain rfl:=Option.some.inj hc
  exact h3
 obtain ⟨p,c,rfl,hc,he⟩:=hX w (Off.refl _ _)
 refine ⟨p,c,rfl,hc,fun i hi=>?_⟩
 obtain ⟨b,off,rfl,l,h1,h2,s,e,h3⟩:=he i hi
 obtain rfl:l = [s]:=by simpa using e
 obtain ⟨g1,e1,x1,l1⟩:=iZ (by omega) (mg hS) hX
 obtain ⟨g2,e2,x2,l2⟩:=iZ (by omega) (mg hS) hY
 obtain rfl:=Option.some.inj e1
 obtain rfl:=Option.some.inj e2
 refine ⟨b,off,rfl,[s],rfl,fun j u hj=>?_,s,rfl,hG i X Y w s (sub hX i hi b off s rfl (h2 0 s rfl)) (sub hY i hi b off s rfl (h2 0 s rfl)) w1 hw⟩
 rw [World.cell?_of_block (hw.2 b l1 fun h=>h.elim x1 x2)]
 exact h2 j u hj
end
section
variable {e:TypeId}{F:PH}{n:Nat}{w:World}{v:Value}
theorem aE.rw (h:aE e F n w v):Rw 1 (ah F) n w v:=Rw.to (sz:=1) (aC.rw h) fun _ _ _ _ ⟨s,e,h⟩=>⟨s,e,h _ (Off.refl _ _)⟩
theorem aE.nil (e:TypeId) (F:PH) (w:World):aE e F 0 w (.slice none 0 0):=aC.nil _ _ _ _
theorem aE.is (h:aE e F n w v):(bn.one .s).is v:=by
 obtain ⟨p,c,rfl,_⟩:=h.rw
 exact ⟨⟨_,_,_,rfl⟩,fun _ h=>by cases h⟩
end
theorem fY {Φ:PH}{p q x j n:Nat}{t e:TypeId}{F:PH} (hU:Try.prog.underlying t=some (.slice e)) (hI:(Try.prog.info? e).map (fun i=>(i.zero,i.size,i.bytes))=some (some (.slice none 0 0),1,24)) (hS:∀i w s,F i w s->∃p n c,s = .slice p n c) (hF:∀i,cg (F i))
  (hp:∀w v,Φ p w v->aE e F n w v) (hq:∀w v,Φ q w v->ah F n w v) (hn:n<=1000000) (hx:Φ x=aE e F (n+1)) :
  aj Φ Try.prog ⟨0,[.fact p,.row 1 [q]],[oS x],.loose [] j 0 (cf t t)⟩:=fun X L w ac o ys hX hL hLX hm ha hb hbs=>by
 obtain ⟨i0,hi,hz0,hz1,hz2⟩:=info_parts hI
 obtain ⟨y,u,hys⟩:∃y u,ys.map ac.eval = [y,u]:=by
  match ys.map ac.eval,ha with
  | [y,u],_=>exact ⟨y,u,rfl⟩
 rw [show List.map ac.eval ys = [y,u] from hys] at ha hbs
 obtain ⟨a,b,ho,rfl,ea,eb⟩:=mh hm hys
 obtain ⟨h1,⟨g,hu,⟨l,hl,hcells,hl3⟩,-⟩,-⟩:=ha
 obtain ⟨-,⟨g2,hu2,⟨l2,hl2,Jt,hl4⟩,-⟩,-⟩:=hbs
 have hA:∀w1,Off X w w1->aE e F n w1 y:=fun w1 hw=>hp _ _ (h1 w1 hw)
 obtain ⟨rows,r1,r2,r3,r4⟩:=hA w (Off.refl _ _)
 have hu':u = .slice (some ⟨g,0,none⟩) 1 1:=hu
 have pp:u = .slice (some ⟨g2,0,none⟩) 1 1:=hu2
 rw [hu'] at pp
 simp only [Value.slice.injEq,Option.some.injEq,Addr.mk.injEq,and_true] at pp
 obtain rfl:=pp
 obtain ⟨s,rfl⟩:∃s,l = [s]:=by
  match l,hl with
  | [s],_=>exact ⟨s,rfl⟩
 obtain ⟨s2,rfl⟩:∃s,l2 = [s]:=by
  match l2,hl2 with
  | [s],_=>exact ⟨s,rfl⟩
 have hss:s=s2:=by
  have h2:=hcells 0 s rfl
  have h3:=Jt 0 s2 rfl
  rw [h2] at h3
  exact Option.some.inj h3
 subst hss
 have hC:∀w1,Off (fun k=>X k∨L k) w w1->F n w1 s:=fun w1 hw=>by
  obtain ⟨s',e',h'⟩:=hq _ _ (hl4 w1 hw)
  obtain rfl:s=s':=by simpa using e'
  exact h'
 have hsl:∃p n c,s = .slice p n c:=hS _ _ _ (hC w (Off.refl _ _))
 have hone:∀v,v ∈ [s]->v.oneCell'=true∧KT v:=fun v hv=>by
  obtain rfl:=List.mem_singleton.1 hv
  obtain ⟨p,n,c,rfl⟩:=hsl
  exact ⟨rfl,fun _ _ _ h=>by cases h⟩
 obtain ⟨v',w',hrn,ho',hg,hbl⟩:=vE t o.type hU hi hz0 hz1 hz2 rfl (by omega) (by omega) (fun x hx=>by
  have:x = .slice none 0 0:=by simpa [Value.cells] using hx
  subst this
  exact fun _ _ _ h=>by cases h) r3 ⟨g,0,none⟩ 1 [s] hl (fun k v hk=>by rw [Addr.add_lit];exact hcells k v hk) (fun v hv=>(hone v hv).1) (fun v hv=>(hone v hv).2) hn
 have hkp:=r3.kp hg
 have hLy:∀m,y.ownBlock=some m->L m:=fun m hm'=>hb a m rfl (by rw [ea,dj];exact hm')
 have hv':∀m,v'.ownBlock=some m->L m∨m=w.heap.size:=fun m hm'=>by
  rcases hbl with h | h
  ·exact .inl (hLy m (by rw [<- h];exact hm'))
  ·rw [hm'] at h;exact .inr (Option.some.inj h)
 have hrun:=kB (o:=o) (P:=Try.prog) ho ea (by rw [eb,hu']) hrn
 refine ⟨v',w',y.ownBlock,hrun,hg,hLy,hkp,fun m k v hm' h4 h5=>?_,fun m hm'=>?_,?_⟩
 ·have hbk:=hg.block m (World.block_lt_of_cell? _ _ h4) (fun e'=>hm' m e'.symm rfl)
  refine ⟨by rw [World.cell?_of_block hbk];exact h4,?_⟩
  simp only [World.frozen?,hbk] at h5 ⊢
  exact h5
 ·rw [dj] at hm'
  refine ⟨ho'.lt m hm',?_⟩
  rcases hv' m hm' with h | h
  ·exact .inl h
  ·exact .inr (by omega)
 ·obtain ⟨p1,n1,c1,rfl⟩:∃p n c,v' = .slice p n c:=by
   rcases ho'.1.2 with ⟨h,-⟩ | ⟨_,_,_,h,-⟩ <;> exact ⟨_,_,_,h⟩
  refine ⟨⟨⟨⟨_,_,_,rfl⟩,fun _ h=>by cases h⟩,fun s' hs w1 hw=>?_⟩,trivial⟩
  simp only [List.mem_singleton] at hs
  subst hs
  show Φ x w1 _
  rw [hx]
  have Ll:∀w2,Off (fun k=>blk (.slice p1 n1 c1)=some k) w1 w2->Off (fun k=>X k∨blk y=some k) w w2:=fun w2 hw2=>by
   refine ⟨hkp.trans (hw.1.trans hw2.1),fun m hm hno=>?_⟩
   have e1:w'.heap[m]?=w.heap[m]?:=hg.block m hm fun e=>hno (.inr (by rw [dj];exact e.symm▸rfl))
   have e2:w1.heap[m]?=w'.heap[m]?:=hw.2 m (Nat.lt_of_lt_of_le hm hg.size) fun h=>hno (.inl h)
   have e3:w2.heap[m]?=w1.heap[m]?:=hw2.2 m (Nat.lt_of_lt_of_le (Nat.lt_of_lt_of_le hm hg.size) hw.1.1) fun h=>by
    rw [dj] at h
    rcases hbl with h' | h'
    ·exact hno (.inr (by rw [dj,<- h'];exact h))
    ·rw [h'] at h;have:=Option.some.inj h;omega
   rw [e3,e2,e1]
  refine ⟨rows ++ [[s]],by simp [r1],fun r hr=>?_,?_,fun i r hr=>?_⟩
  ·rcases List.mem_append.1 hr with hr | hr
   ·exact r2 r hr
   ·rw [List.mem_singleton.1 hr];rfl
  ·rw [List.flatten_append,List.flatten_singleton]
   refine ho'.keep fun m hm'=>hw.2 m (ho'.lt m hm') fun hx'=>?_
   rcases hv' m hm' with h | h
   ·exact hLX m h hx'
   ·have:=hX m hx';omega
  ·rw [List.getElem?_append] at hr
   split at hr
   ·obtain ⟨s0,e0,hd⟩:=r4 i r hr
    refine ⟨s0,e0,fun w2 hw2=>hF i X (fun k=>blk y=some k) w s0 (fun w3 hw3=>?_) hd w2 (Ll w2 hw2)⟩
    have hi:i<n:=by have:=(List.getElem?_eq_some_iff.1 hr).1;omega
    obtain rfl:r = [s0]:=by simpa using e0
    have h0:aC 1 e (fun i _ v=>∃r,rows[i]?=some r∧v = .agg r.toArray) n w y:=⟨rows,r1,r2,r3,fun i r hr=>⟨r,hr,rfl⟩⟩
    obtain ⟨p,c,rfl,-,he⟩:=aC.rw h0
    obtain ⟨b,off,rfl,l,g1,g2,r',g3,g4⟩:=he i hi
    rw [hr] at g3
    obtain rfl:=Option.some.inj g3
    obtain rfl:l = [s0]:=by simpa using g4
    obtain ⟨p',c',e5,-,he'⟩:=aC.rw (hA w3 hw3)
    simp only [Value.slice.injEq,true_and] at e5
    obtain ⟨rfl,rfl⟩:=e5
    obtain ⟨b',off',e6,l',k1,k2,s3,k3,k4⟩:=he' i hi
    simp only [Option.some.injEq,Addr.mk.injEq,and_true] at e6
    obtain ⟨rfl,rfl⟩:=e6
    obtain rfl:l' = [s3]:=by simpa using k3
    have hc:=g2 0 s0 rfl
    have hc':=k2 0 s3 rfl
    rw [World.cell?_of_block (hw3.2 b (World.block_lt_of_cell? _ _ hc) (hLX b (hLy b rfl))),hc] at hc'
    obtain rfl:=Option.some.inj hc'
    exact k4 w3 (Off.refl _ _)
   ·have hi':i=n:=by
     have:=(List.getElem?_eq_some_iff.1 hr).1
     simp at this
     omega
    subst hi'
    rw [r1,Nat.sub_self] at hr
    simp at hr
    subst hr
    refine ⟨s,rfl,fun w2 hw2=>hC w2 ?_⟩
    exact (Ll w2 hw2).wide fun m h=>h.imp id fun h=>hLy m (by rw [<- dj];exact h)
theorem Jo {G:PH}{n i:Nat}{w w2:World}{Z:Nat->Prop}{p:Option Addr}{c b off:Nat}{u:Value} (hS:∀i w s,G i w s->∃p n c,s = .slice p n c) (hZ:∀w1,Off Z w w1->Rw 1 (ah G) n w1 (.slice p n c)) (hi:i<n) (hb:p=some ⟨b,off,none⟩) (hu:w.cell? ⟨b,off+i*1+0,none⟩=some u) (hw2:Off Z w w2):G i w2 u:=by
 obtain ⟨g,e,x,l⟩:=iZ (by omega) (mg hS) hZ
 obtain ⟨p',c',es,_,he⟩:=hZ w2 hw2
 obtain ⟨b',off',ep,l',h1,h2,s',e',h3⟩:=he i hi
 subst hb
 simp only [Value.slice.injEq,true_and] at es
 rw [ep] at es
 simp only [Option.some.injEq,Addr.mk.injEq,and_true] at es
 obtain ⟨⟨rfl,rfl⟩,-⟩:=es
 obtain rfl:=Option.some.inj e
 obtain rfl:l' = [s']:=by simpa using e'
 have hc:=h2 0 s' rfl
 rw [World.cell?_of_block (hw2.2 b l x),hu] at hc
 obtain rfl:=Option.some.inj hc
 exact h3
theorem qJ {Φ:PH}{q x j n:Nat}{t e:TypeId}{F:PH} (hU:Try.prog.underlying t=some (.slice e)) (hI:(Try.prog.info? e).map (fun i=>(i.zero,i.size,i.bytes))=some (some (.slice none 0 0),1,24)) (hS:∀i w s,F i w s->∃p n c,s = .slice p n c)
  (hq:∀w v,Φ q w v->Rw 1 (ah F) n w v) (hn:n<=1000000) (hx:Φ x=aE e F n) :
  aj Φ Try.prog ⟨0,[.lit .nl,.fact q],[oS x],.loose [] j 0 (cf t t)⟩:=fun X L w ac o ys hX hL hLX hm ha hb hbs=>by
 obtain ⟨i0,hi,hz0,hz1,hz2⟩:=info_parts hI
 obtain ⟨y,u,hys⟩:∃y u,ys.map ac.eval = [y,u]:=by
  match ys.map ac.eval,ha with
  | [y,u],_=>exact ⟨y,u,rfl⟩
 rw [show List.map ac.eval ys = [y,u] from hys] at ha
 obtain ⟨a,b,ho,rfl,ea,eb⟩:=mh hm hys
 obtain ⟨h1,h2,-⟩:=ha
 have hy:y = .slice none 0 0:=h1
 subst hy
 have hA:∀w1,Off X w w1->Rw 1 (ah F) n w1 u:=fun w1 hw=>hq _ _ (h2 w1 hw)
 obtain ⟨p0,c0,hu,hc0,hel⟩:=hA w (Off.refl _ _)
 rcases Nat.eq_zero_or_pos n with hn0 | hn0
 ·subst hn0
  have hr:=qp (P:=Try.prog) (w:=w) t o.type e i0 hU hi none p0 0 0 c0 (Nat.le_refl _)
  have hrun:=kB (o:=o) (P:=Try.prog) ho ea (by rw [eb,hu]) hr
  exact ⟨.slice none 0 0,w,none,hrun,ba w none,(fun _ h=>by cases h),Kp.refl _,(fun m k v _ h4 h5=>⟨h4,h5⟩),fun m hm'=>(by cases hm'),cm ⟨⟨_,_,_,rfl⟩,fun _ h=>by cases h⟩ hx fun w1 _=>aE.nil _ _ _⟩
 ·obtain ⟨rows,r1,r2,r3,-⟩:=aE.nil e F w
  obtain rfl:rows = []:=List.eq_nil_of_length_eq_zero r1
  obtain ⟨b0,kj,hp0,-⟩:=hel 0 hn0
  subst hp0
  obtain ⟨Ls,s1,s2⟩:=qt (m:=n) (Q:=fun i l=>∃s,l = [s]∧w.cell? ⟨b0,kj+i*1+0,none⟩=some s∧F i w s) fun i hi=>by
   obtain ⟨b',off',hbo,l,h3,h4,s,h5,h6⟩:=hel i hi
   simp only [Option.some.injEq,Addr.mk.injEq,and_true] at hbo
   obtain ⟨rfl,rfl⟩:=hbo
   obtain rfl:l = [s]:=by simpa using h5
   exact ⟨[s],s,rfl,h4 0 s rfl,h6⟩
  have pj:∀r,r ∈ Ls->r.length=1:=fun r hr=>by
   obtain ⟨i,hi,rfl⟩:=List.getElem_of_mem hr
   obtain ⟨s,e1,-⟩:=s2 i _ (List.getElem?_eq_getElem hi)
   rw [e1];rfl
  have hcells:∀(k:Nat) v,Ls.flatten[k]?=some v->w.cell? (Addr.add ⟨b0,kj,none⟩ k)=some v:=fun k v hk=>by
   obtain ⟨i,k',r,rfl,hr,hk'⟩:=mQ (by omega) pj hk
   obtain ⟨s,rfl,e2,-⟩:=s2 i r hr
   have:k'=0:=by have:=(List.getElem?_eq_some_iff.1 hk').1;simp at this;exact this
   subst this
   obtain rfl:s=v:=by simpa using hk'
   rw [Addr.add_lit,<- Nat.add_assoc]
   exact e2
  have hcs:∀v,v ∈ Ls.flatten->v.oneCell'=true∧KT v:=fun v hv=>by
   obtain ⟨r,hr,hvr⟩:=List.mem_flatten.1 hv
   obtain ⟨i,hi,rfl⟩:=List.getElem_of_mem hr
   obtain ⟨s,e1,-,e3⟩:=s2 i _ (List.getElem?_eq_getElem hi)
   rw [e1] at hvr
   obtain rfl:=List.mem_singleton.1 hvr
   obtain ⟨p,n,c,rfl⟩:=hS _ _ _ e3
   exact ⟨rfl,fun _ _ _ h=>by cases h⟩
  obtain ⟨v',w',hr,ho',hg,hbl⟩:=wW t o.type hU hi hz0 hz1 hz2 rfl (by omega) (by omega) (fun x hx=>by
   have:x = .slice none 0 0:=by simpa [Value.cells] using hx
   subst this
   exact fun _ _ _ h=>by cases h) r3 ⟨b0,kj,none⟩ n c0 Ls.flatten (by rw [fT pj,s1]) hn0 hcells (fun v hv=>(hcs v hv).1) (fun v hv=>(hcs v hv).2) (by omega)
  have hkp:=r3.kp hg
  have hv':∀m,v'.ownBlock=some m->m=w.heap.size:=fun m hm'=>by
   rcases hbl with h | h
   ·rw [hm'] at h;cases h
   ·rw [hm'] at h;exact Option.some.inj h
  have hrun:=kB (o:=o) (P:=Try.prog) ho ea (by rw [eb,hu]) hr
  refine ⟨v',w',none,hrun,hg,(fun _ h=>by cases h),hkp,fun m k v hm' h4 h5=>?_,fun m hm'=>?_,?_⟩
  ·have hbk:=hg.block m (World.block_lt_of_cell? _ _ h4) (fun e'=>by cases e')
   refine ⟨by rw [World.cell?_of_block hbk];exact h4,?_⟩
   simp only [World.frozen?,hbk] at h5 ⊢
   exact h5
  ·rw [dj] at hm'
   have:=hv' m hm'
   exact ⟨ho'.lt m hm',.inr (by omega)⟩
  ·obtain ⟨p1,n1,c1,rfl⟩:∃p n c,v' = .slice p n c:=by
    rcases ho'.1.2 with ⟨h,-⟩ | ⟨_,_,_,h,-⟩ <;> exact ⟨_,_,_,h⟩
   refine ⟨⟨⟨⟨_,_,_,rfl⟩,fun _ h=>by cases h⟩,fun s' hs w1 hw=>?_⟩,trivial⟩
   simp only [List.mem_singleton] at hs
   subst hs
   show Φ x w1 _
   rw [hx]
   have Ll:∀w2,Off (fun k=>blk (.slice p1 n1 c1)=some k) w1 w2->Off X w w2:=fun w2 hw2=>by
    refine ⟨hkp.trans (hw.1.trans hw2.1),fun m hm hno=>?_⟩
    have e1:w'.heap[m]?=w.heap[m]?:=hg.block m hm fun e=>by cases e
    have e2:w1.heap[m]?=w'.heap[m]?:=hw.2 m (Nat.lt_of_lt_of_le hm hg.size) fun h=>hno h
    have e3:w2.heap[m]?=w1.heap[m]?:=hw2.2 m (Nat.lt_of_lt_of_le (Nat.lt_of_lt_of_le hm hg.size) hw.1.1) fun h=>by
     rw [dj] at h
     have:=hv' m h
     omega
    rw [e3,e2,e1]
   refine ⟨Ls,s1,pj,?_,fun i r hr=>?_⟩
   ·have ho2:cu 1 e w' (.slice p1 n1 c1) n Ls.flatten:=by simpa using ho'
    exact ho2.keep fun m hm'=>hw.2 m (ho2.lt m hm') fun hx'=>by
     have:=hv' m hm'
     have:=hX m hx'
     omega
   ·obtain ⟨s,rfl,e2,-⟩:=s2 i r hr
    have hi:i<n:=by have:=(List.getElem?_eq_some_iff.1 hr).1;omega
    exact ⟨s,rfl,fun w2 hw2=>Jo hS (fun w1 hw=>hu▸hA w1 hw) hi rfl e2 (Ll w2 hw2)⟩
section
variable {e:TypeId}{F F' G:PH}{n m:Nat}{w w':World}{y v:Value}{X:Nat->Prop}
theorem aE.intro {ss:List Value} (h1:ss.length=n) (h2:cu 1 e w y n ss) (h3:∀i s,ss[i]?=some s->∀w2,Off (fun k=>blk y=some k) w w2->F i w2 s):aE e F n w y:=by
 have hfl:(ss.map fun s=>[s]).flatten=ss:=by
  clear h1 h2 h3
  induction ss with
  | nil=>rfl
  | cons s ss ih=>rw [List.map_cons,List.flatten_cons,ih];rfl
 refine ⟨ss.map fun s=>[s],by simp [h1],fun r hr=>?_,hfl.symm▸h2,fun i r hr=>?_⟩
 ·obtain ⟨s,-,rfl⟩:=List.mem_map.1 hr;rfl
 ·rw [List.getElem?_map] at hr
  obtain ⟨s,hs,rfl⟩:=Option.map_eq_some_iff.1 hr
  exact ⟨s,rfl,h3 i s hs⟩
theorem aE.qy (h:aC 1 e G 0 w v):aE e F 0 w v:=by
 obtain ⟨rows,r1,r2,r3,-⟩:=h
 obtain rfl:rows = []:=List.eq_nil_of_length_eq_zero r1
 exact ⟨[],rfl,r2,r3,fun i r hr=>by simp at hr⟩
theorem aE.tell (hF:∀i,cg (F i)) (A:∀w1,Off X w w1->aE e F n w1 y) (hb:∀g,blk y=some g->¬X g) :
  ∃ss:List Value,ss.length=n∧cu 1 e w y n ss∧∀i s,ss[i]?=some s->∀w2,Off (fun k=>X k∨blk y=some k) w w2->F i w2 s:=by
 obtain ⟨rows,r1,r2,r3,r4⟩:=A w (Off.refl _ _)
 refine ⟨rows.flatten,by rw [fT r2,r1,Nat.mul_one],r3,fun i s hs w2 hw2=>?_⟩
 obtain ⟨i',k',r,e1,hr,hk'⟩:=mQ (by omega) r2 hs
 have hk0:k'=0:=by
  have h1:=(List.getElem?_eq_some_iff.1 hk').1
  rw [r2 r (List.mem_of_getElem? hr)] at h1
  omega
 subst hk0
 obtain rfl:i'=i:=by omega
 obtain ⟨s0,e0,hd⟩:=r4 i' r hr
 obtain rfl:r = [s0]:=by simpa using e0
 obtain rfl:s0=s:=by simpa using hk'
 refine hF i' X (fun k=>blk y=some k) w s0 (fun w3 hw3=>?_) hd w2 hw2
 have hi:i'<n:=by have:=(List.getElem?_eq_some_iff.1 hr).1;omega
 have h0:aC 1 e (fun i _ v=>∃r,rows[i]?=some r∧v = .agg r.toArray) n w y:=⟨rows,r1,r2,r3,fun i r hr=>⟨r,hr,rfl⟩⟩
 obtain ⟨p,c,rfl,-,he⟩:=aC.rw h0
 obtain ⟨b,off,rfl,l,g1,g2,r',g3,g4⟩:=he i' hi
 rw [hr] at g3
 obtain rfl:=Option.some.inj g3
 obtain rfl:l = [s0]:=by simpa using g4
 obtain ⟨p',c',e5,-,he'⟩:=aC.rw (A w3 hw3)
 simp only [Value.slice.injEq,true_and] at e5
 obtain ⟨rfl,rfl⟩:=e5
 obtain ⟨b',off',e6,l',k1,k2,s3,k3,k4⟩:=he' i' hi
 simp only [Option.some.injEq,Addr.mk.injEq,and_true] at e6
 obtain ⟨rfl,rfl⟩:=e6
 obtain rfl:l' = [s3]:=by simpa using k3
 have hc:=g2 0 s0 rfl
 have hc':=k2 0 s3 rfl
 rw [World.cell?_of_block (hw3.2 b (World.block_lt_of_cell? _ _ hc) (hb b rfl)),hc] at hc'
 obtain rfl:=Option.some.inj hc'
 exact k4 w3 (Off.refl _ _)
end
theorem Jp {Φ:PH}{p q x j n m:Nat}{t e:TypeId}{F G F':PH} (hU:Try.prog.underlying t=some (.slice e)) (hI:(Try.prog.info? e).map (fun i=>(i.zero,i.size,i.bytes))=some (some (.slice none 0 0),1,24)) (hS:∀i w s,G i w s->∃p n c,s = .slice p n c) (hF:∀i,cg (F i))
  (hp:∀w v,Φ p w v->aE e F n w v) (hq:∀w v,Φ q w v->Rw 1 (ah G) m w v) (h1F:∀i w v,i<n->F i w v->F' i w v) (h1G:∀i w v,i<m->G i w v->F' (n+i) w v) (hn:n+m<=1000000) (hx:Φ x=aE e F' (n+m)) :
  aj Φ Try.prog ⟨0,[.fact p,.fact q],[oS x],.loose [] j 0 (cf t t)⟩:=fun X L w ac o ys hX hL hLX hm ha hb hbs=>by
 obtain ⟨i0,hi,hz0,hz1,hz2⟩:=info_parts hI
 obtain ⟨y,u,hys⟩:∃y u,ys.map ac.eval = [y,u]:=by
  match ys.map ac.eval,ha with
  | [y,u],_=>exact ⟨y,u,rfl⟩
 rw [show List.map ac.eval ys = [y,u] from hys] at ha hbs
 obtain ⟨a,b,ho,rfl,ea,eb⟩:=mh hm hys
 obtain ⟨h1,h2,-⟩:=ha
 obtain ⟨-,h3,-⟩:=hbs
 have hLy:∀m,y.ownBlock=some m->L m:=fun m hm'=>hb a m rfl (by rw [ea,dj];exact hm')
 obtain ⟨ss,s1,s2,s3⟩:=aE.tell (y:=y) hF (fun w1 hw=>hp _ _ (h1 w1 hw)) fun g hg=>hLX g (hLy g (by rw [<- dj];exact hg))
 have hA:∀w1,Off (fun k=>X k∨L k) w w1->Rw 1 (ah G) m w1 u:=fun w1 hw=>hq _ _ (h3 w1 hw)
 obtain ⟨p0,c0,hu,hc0,hel⟩:=hA w (Off.refl _ _)
 rcases Nat.eq_zero_or_pos m with hm0 | hm0
 ·subst hm0
  obtain ⟨py,cy,hyv,hcy,-⟩:=(hp _ _ (h1 w (Off.refl _ _))).rw
  have hr:=qp (P:=Try.prog) (w:=w) t o.type e i0 hU hi py p0 n cy c0 hcy
  have hrun:=kB (o:=o) (P:=Try.prog) ho (by rw [ea,hyv]) (by rw [eb,hu]) hr
  refine ⟨.slice py n cy,w,none,hrun,ba w none,(fun _ h=>by cases h),Kp.refl _,(fun m k v _ h4 h5=>⟨h4,h5⟩),fun m hm'=>?_,cm ⟨⟨_,_,_,rfl⟩,fun _ h=>by cases h⟩ hx fun w1 hw=>?_⟩
  ·rw [dj,<- hyv] at hm'
   exact ⟨hL m (hLy m hm'),.inl (hLy m hm')⟩
  ·rw [<- hyv]
   refine aE.intro (ss:=ss) (by omega) (by simpa using s2.keep fun m hm'=>hw.2 m (s2.lt m hm') fun hx'=>hLX m (hLy m hm') hx') fun i s hs w2 hw2=>?_
   refine h1F i w2 s (by have:=(List.getElem?_eq_some_iff.1 hs).1;omega) (s3 i s hs w2 ((hw.wide fun _ h=>.inl h).trans hw2 fun m _ h=>.inr h))
 ·obtain ⟨b0,kj,hp0,-⟩:=hel 0 hm0
  subst hp0
  obtain ⟨Ls,t1,t2⟩:=qt (m:=m) (Q:=fun i l=>∃s,l = [s]∧w.cell? ⟨b0,kj+i*1+0,none⟩=some s∧G i w s) fun i hi=>by
   obtain ⟨b',off',hbo,l,h3,h4,s,h5,h6⟩:=hel i hi
   simp only [Option.some.injEq,Addr.mk.injEq,and_true] at hbo
   obtain ⟨rfl,rfl⟩:=hbo
   obtain rfl:l = [s]:=by simpa using h5
   exact ⟨[s],s,rfl,h4 0 s rfl,h6⟩
  have pj:∀r,r ∈ Ls->r.length=1:=fun r hr=>by
   obtain ⟨i,hi,rfl⟩:=List.getElem_of_mem hr
   obtain ⟨s,e1,-⟩:=t2 i _ (List.getElem?_eq_getElem hi)
   rw [e1];rfl
  have hget:∀(k:Nat) v,Ls.flatten[k]?=some v->k<m∧w.cell? ⟨b0,kj+k*1+0,none⟩=some v∧G k w v:=fun k v hk=>by
   obtain ⟨i,k',r,rfl,hr,hk'⟩:=mQ (by omega) pj hk
   obtain ⟨s,rfl,e2,e3⟩:=t2 i r hr
   have:k'=0:=by have:=(List.getElem?_eq_some_iff.1 hk').1;simp at this;exact this
   subst this
   obtain rfl:s=v:=by simpa using hk'
   rw [Nat.mul_one,Nat.add_zero]
   exact ⟨by have:=(List.getElem?_eq_some_iff.1 hr).1;omega,e2,e3⟩
  have hcells:∀(k:Nat) v,Ls.flatten[k]?=some v->w.cell? (Addr.add ⟨b0,kj,none⟩ k)=some v:=fun k v hk=>by
   have:=(hget k v hk).2.1
   rw [Addr.add_lit]
   rwa [Nat.mul_one,Nat.add_zero] at this
  have hcs:∀v,v ∈ Ls.flatten->v.oneCell'=true∧KT v:=fun v hv=>by
   obtain ⟨k,hk,rfl⟩:=List.getElem_of_mem hv
   obtain ⟨p,n,c,e4⟩:=hS _ _ _ (hget k _ (List.getElem?_eq_getElem hk)).2.2
   rw [e4]
   exact ⟨rfl,fun _ _ _ h=>by cases h⟩
  obtain ⟨v',w',hr,ho',hg,hbl⟩:=wW t o.type hU hi hz0 hz1 hz2 rfl (by omega) (by omega) (fun x hx=>by
   have:x = .slice none 0 0:=by simpa [Value.cells] using hx
   subst this
   exact fun _ _ _ h=>by cases h) s2 ⟨b0,kj,none⟩ m c0 Ls.flatten (by rw [fT pj,t1]) hm0 hcells (fun v hv=>(hcs v hv).1) (fun v hv=>(hcs v hv).2) hn
  have hkp:=s2.kp hg
  have hv':∀m,v'.ownBlock=some m->L m∨m=w.heap.size:=fun m hm'=>by
   rcases hbl with h | h
   ·exact .inl (hLy m (by rw [<- h];exact hm'))
   ·rw [hm'] at h;exact .inr (Option.some.inj h)
  have hrun:=kB (o:=o) (P:=Try.prog) ho ea (by rw [eb,hu]) hr
  refine ⟨v',w',y.ownBlock,hrun,hg,hLy,hkp,fun m k v hm' h4 h5=>?_,fun m hm'=>?_,?_⟩
  ·have hbk:=hg.block m (World.block_lt_of_cell? _ _ h4) (fun e'=>hm' m e'.symm rfl)
   refine ⟨by rw [World.cell?_of_block hbk];exact h4,?_⟩
   simp only [World.frozen?,hbk] at h5 ⊢
   exact h5
  ·rw [dj] at hm'
   refine ⟨ho'.lt m hm',?_⟩
   rcases hv' m hm' with h | h
   ·exact .inl h
   ·exact .inr (by omega)
  ·obtain ⟨p1,n1,c1,rfl⟩:∃p n c,v' = .slice p n c:=by
    rcases ho'.1.2 with ⟨h,-⟩ | ⟨_,_,_,h,-⟩ <;> exact ⟨_,_,_,h⟩
   refine cm ⟨⟨_,_,_,rfl⟩,fun _ h=>by cases h⟩ hx fun w1 hw=>?_
   have Ll:∀w2,Off (fun k=>blk (.slice p1 n1 c1)=some k) w1 w2->Off (fun k=>X k∨blk y=some k) w w2:=fun w2 hw2=>by
    refine ⟨hkp.trans (hw.1.trans hw2.1),fun m hm hno=>?_⟩
    have e1:w'.heap[m]?=w.heap[m]?:=hg.block m hm fun e=>hno (.inr (by rw [dj];exact e.symm▸rfl))
    have e2:w1.heap[m]?=w'.heap[m]?:=hw.2 m (Nat.lt_of_lt_of_le hm hg.size) fun h=>hno (.inl h)
    have e3:w2.heap[m]?=w1.heap[m]?:=hw2.2 m (Nat.lt_of_lt_of_le (Nat.lt_of_lt_of_le hm hg.size) hw.1.1) fun h=>by
     rw [dj] at h
     rcases hbl with h' | h'
     ·exact hno (.inr (by rw [dj,<- h'];exact h))
     ·rw [h'] at h;have:=Option.some.inj h;omega
    rw [e3,e2,e1]
   have hl2:Ls.flatten.length=m:=by rw [fT pj,t1,Nat.mul_one]
   refine aE.intro (ss:=ss ++ Ls.flatten) (by rw [List.length_append,s1,hl2]) (ho'.keep fun m hm'=>hw.2 m (ho'.lt m hm') fun hx'=>?_) fun i s hs w2 hw2=>?_
   ·rcases hv' m hm' with h | h
    ·exact hLX m h hx'
    ·have:=hX m hx';omega
   ·rw [List.getElem?_append] at hs
    split at hs
    ·rename_i hlt
     exact h1F i w2 s (by omega) (s3 i s hs w2 (Ll w2 hw2))
    ·rename_i hge
     obtain ⟨hk,hc,-⟩:=hget _ s hs
     have:=h1G (i-ss.length) w2 s hk (Jo hS (fun w1 hw=>hu▸hA w1 hw) hk rfl hc ((Ll w2 hw2).wide fun m h=>h.imp id fun h=>hLy m (by rw [<- dj];exact h)))
     rw [s1,show n+(i-n)=i by omega] at this
     exact this
theorem LU {Φ:PH}{p q r x y n i j:Nat}{t e:TypeId}{F F':PH}{G:WP} (xS xI:Operand) (hz:cG Try.prog t=some 1) (hS:∀w s,G w s->∃p n c,s = .slice p n c) (hF:∀i,cg (F i)) (hp:∀w v,Φ p w v->aE e F n w v) (hq:∀w v,Φ q w v->v = .int .i64 (i:Int)) (hi:i<n) (hr:∀w v,Φ r w v->G w v) (hy:Φ y=At 1)
  (hF':∀k w v,k≠i->F k w v->F' k w v) (hG':∀w v,G w v->F' i w v) (hx:Φ x=aE e F' n) :
  aj Φ Try.prog ⟨0,[.fact p,.fact q,.any,.fact r],[oS x],.gF [] j 0 y (dN t xS xI)⟩:=fun X L w ac o xs hX hL hLX hm ha hjt hb hbs=>by
 unfold dN at hm
 split at hm
 case h_2=>cases hm
 rename_i t' a b ho
 split at hm
 case isFalse=>cases hm
 rename_i ht
 subst ht
 simp only [Option.some.injEq] at hm
 subst hm
 have hi2:=hq _ _ (ha.2.1 w (Off.refl _ _))
 have hval:∀w1,Off (fun k=>X k∨L k) w w1->G w1 (ac.eval b):=fun w1 hw=>hr _ _ (hbs.2.2.2.1 w1 hw)
 obtain ⟨pv,nv,cv,hbv⟩:=hS _ _ (hval w (Off.refl _ _))
 have hAt:=hjt w (Off.refl _ _)
 rw [hy] at hAt
 obtain ⟨g,off,n1,c,k,hAt⟩:=hAt
 simp only [List.dropLast_cons_cons,List.dropLast_singleton,List.map_cons,List.map_nil,Value.agg.injEq,Array.mk.injEq,List.cons.injEq,and_true] at hAt
 obtain ⟨h1,h2,h3⟩:=hAt
 have hk:k=i:=by
  rw [hi2] at h2
  simp only [Value.int.injEq,true_and] at h2
  omega
 subst hk
 have hLg:L g:=hb xS g rfl (by rw [h1];rfl)
 obtain ⟨ss,s1,s2,s3⟩:=aE.tell (y:=ac.eval xS) hF (fun w1 hw=>hp _ _ (ha.1 w1 hw)) fun g' hg'=>by
  rw [h1] at hg'
  simp only [blk,Option.some.injEq] at hg'
  subst hg';exact hLX _ hLg
 rw [h1] at s2 s3
 have hoff:off=0∧n1=n:=by
  rcases s2.1.2 with ⟨h',_⟩ | ⟨g',cap',cur',h',_⟩
  ·simp at h'
  ·simp only [Value.slice.injEq,Option.some.injEq,Addr.mk.injEq,and_true] at h'
   exact ⟨h'.1.2,h'.2.1⟩
 obtain ⟨rfl,rfl⟩:=hoff
 rw [Nat.zero_add,Nat.mul_one] at h3
 have hcell:∀m,m < [Value.slice pv nv cv].length->(w.cell? ⟨g,k+m,none⟩).isSome=true:=fun m hm=>by
  have hm0:m=0:=by simpa using hm
  subst hm0
  rw [Nat.add_zero,s2.1.cellAt _ (by omega),List.getElem?_eq_getElem (by rw [s2.1.1];omega)];rfl
 have hrun:=run_storeCells_cells (P:=Try.prog) g k [Value.slice pv nv cv] 0 w (fun m hm=>by rw [Nat.add_zero];exact hcell m hm) (fun m _=>s2.1.frozenAt _) (fun v hv=>by
  obtain rfl:=List.mem_singleton.1 hv;rfl)
 rw [Nat.add_zero] at hrun
 have hst:=cu.storeCells [Value.slice pv nv cv] k ss w s2 (fun v hv=>by
  obtain rfl:=List.mem_singleton.1 hv
  exact fun _ _ _ h=>by cases h)
 have hgr:w.grownBy (w.setCells g k [Value.slice pv nv cv]) (some g):=fi g _ _ _
 have hkp:Kp w (w.setCells g k [Value.slice pv nv cv]):=s2.kp hgr
 refine ⟨w.setCells g k [Value.slice pv nv cv],some g,?_,hgr,fun m hm=>Option.some.inj hm▸hLg,hkp,fun m q v hm h4 h5=>?_,fun x0 hx0=>?_⟩
 ·have e0:Instr.sureAddr (.pointer (some ⟨g,k,none⟩))=pure ⟨g,k,none⟩:=rfl
  unfold execOp
  simp only [ho,h3,hbv]
  simp only [Instr.storeAt,e0,storeVar,Value.cells,Sem.run_bind,Sem.run_pure,Result.andThen_ok,run_sizeOf hz]
  simp [hrun]
 ·have hbk:=hgr.block m (World.block_lt_of_cell? _ _ h4) (fun e'=>hm m e'.symm rfl)
  refine ⟨by rw [World.cell?_of_block hbk];exact h4,?_⟩
  simp only [World.frozen?,hbk] at h5 ⊢
  exact h5
 ·simp only [List.dropLast_cons_cons,List.getElem?_cons_zero,Option.some.injEq] at hx0
  subst hx0
  rw [h1]
  refine cm ⟨⟨_,_,_,rfl⟩,fun _ h=>by cases h⟩ hx fun w1 hw=>?_
  have Ll:∀w2,Off (fun k'=>blk (.slice (some ⟨g,0,none⟩) n1 c)=some k') w1 w2->Off (fun k'=>X k'∨blk (.slice (some ⟨g,0,none⟩) n1 c)=some k') w w2:=fun w2 hw2=>by
   refine ⟨hkp.trans (hw.1.trans hw2.1),fun m hm hno=>?_⟩
   have hmg:m≠g:=fun e=>hno (.inr (by rw [e];rfl))
   have e1:(w.setCells g k [Value.slice pv nv cv]).heap[m]?=w.heap[m]?:=hgr.block m hm fun e=>hmg (Option.some.inj e)
   have e2:w1.heap[m]?=(w.setCells g k [Value.slice pv nv cv]).heap[m]?:=hw.2 m (Nat.lt_of_lt_of_le hm hgr.size) fun h=>hno (.inl h)
   have e3:w2.heap[m]?=w1.heap[m]?:=hw2.2 m (Nat.lt_of_lt_of_le (Nat.lt_of_lt_of_le hm hgr.size) hw.1.1) fun h=>hno (.inr h)
   rw [e3,e2,e1]
  refine aE.intro (ss:=ss.set k (.slice pv nv cv)) (by rw [List.length_set,s1]) ((show cu 1 e _ _ n1 (ss.set k (.slice pv nv cv)) from hst).keep fun m hm'=>hw.2 m (hst.lt m hm') fun hx'=>?_) fun m s hs w2 hw2=>?_
  ·simp only [Value.ownBlock,Option.some.injEq] at hm'
   subst hm'
   exact hLX _ hLg hx'
  ·rw [List.getElem?_set] at hs
   split at hs
   ·rename_i e'
    subst e'
    split at hs
    ·obtain rfl:=Option.some.inj hs
     rw [<- hbv]
     refine hG' _ _ (hval w2 ((Ll w2 hw2).wide fun m h=>h.imp id fun h=>?_))
     simp only [blk,Option.some.injEq] at h
     subst h;exact hLg
    ·cases hs
   ·rename_i e'
    exact hF' _ _ _ (fun h=>e' h.symm) (s3 m s hs w2 (Ll w2 hw2))
def pm:Value->Option Nat
 | .pointer (some a)=>some a.block
 | _=>none
def fV (F:WP) (w:World) (v:Value):Prop:=Ptr 1 (fun w u=>∃s,u = .agg #[s]∧∀w2,Off (fun k=>pm v=some k) w w2->F w2 s) w v
def LJ (F:WP) (w:World) (v:Value):Prop:=∃p s,v = .agg #[p,s]∧∀w2,Off (fun k=>pm p=some k) w w2->F w2 s
def LK (F:WP) (w:World) (v:Value):Prop:=∃r i p s,v = .agg #[r,i,p,s]∧∀w2,Off (fun k=>blk r=some k) w w2->F w2 s
section
variable {P:Program}{Φ:PH}{p q x y n i j:Nat}{F:PH}{G:WP}
theorem jC {T e:TypeId}{J:List Nat} (hT:P.underlying T=some (.slice e)) (hz:cG P e=some 1) (hp:∀w v,Φ p w v->aE e F n w v) (hq:∀w v,Φ q w v->v = .int .i64 (i:Int)) (hi:i<n) (hx:Φ x=fV (F i)) (hy:Φ y=At 1) :
  aj Φ P ⟨0,[.fact p,.fact q],[oP x],.joint J y (aI T)⟩:=fun X w ac o xs hX hm ha=>by
 unfold aI at hm
 split at hm
 case h_2=>cases hm
 rename_i t a b ho
 split at hm
 case isFalse=>cases hm
 rename_i ht
 subst ht
 simp only [Option.some.injEq] at hm
 subst hm
 obtain ⟨s,c,hv,hc,he⟩:=aC.rw (hp _ _ (ha.1 w (Off.refl _ _)))
 obtain ⟨g,off,rfl,_⟩:=he i hi
 have hi2:=hq _ _ (ha.2.1 w (Off.refl _ _))
 have hr:(execOp ac.eval o).run P w = .ok (.value (.pointer (some ⟨g,off+i*1,none⟩))) w:=by
  unfold execOp
  have h4:¬n<=i:=by omega
  simp [ho,hv,hi2,Instr.indexAt,asIntOf,run_underlying hT,run_sizeOf hz,hH,h4]
 refine ⟨_,w,hr,ba w none,cm ⟨⟨_,rfl⟩,fun _ h=>by cases h⟩ hx fun w1 hw=>?_,fun w1 _=>?_⟩
 ·obtain ⟨s',c',hv',-,he'⟩:=aC.rw (hp _ _ (ha.1 w1 hw))
  obtain ⟨b',off',hb,l,h1,h2,s3,h3,h4⟩:=he' i hi
  rw [hv] at hv'
  simp only [Value.slice.injEq,true_and] at hv'
  rw [hb] at hv'
  simp only [Option.some.injEq,Addr.mk.injEq,and_true] at hv'
  obtain ⟨⟨rfl,rfl⟩,-⟩:=hv'
  refine ⟨g,_,rfl,l,h1,h2,s3,h3,fun w2 hw2=>h4 w2 ?_⟩
  rw [hv];exact hw2
 ·rw [hy]
  exact ⟨g,off,n,c,i,by simp [hv,hi2]⟩
theorem rb {T:TypeId}{J:List Nat} (hT:fD P T=some false) (hS:∀w s,G w s->∃p n c,s = .slice p n c) (hp:∀w v,Φ p w v->fV G w v) (hy:Φ y=LJ G):aj Φ P ⟨0,[.fact p],[⟨.one .s,[]⟩],.joint J y (aL T)⟩:=fun X w ac o xs hX hm ha=>by
 unfold aL at hm
 split at hm
 case h_2=>cases hm
 rename_i t a ho
 split at hm
 case isFalse=>cases hm
 rename_i ht
 subst ht
 simp only [Option.some.injEq] at hm
 subst hm
 have A:∀w1,Off X w w1->fV G w1 (ac.eval a):=fun w1 hw=>hp _ _ (ha.1 w1 hw)
 obtain ⟨b,off,u,hv,hX',hc⟩:=Mu (F:=fun w u=>∃s,u = .agg #[s]∧G w s) (fun w1 hw=>by
  obtain ⟨b,off,hv,l,h1,h2,s,h3,h4⟩:=A w1 hw
  exact ⟨b,off,hv,l,h1,h2,s,h3,h4 w1 (Off.refl _ _)⟩) (fun w u ⟨s,e,hs⟩=>by
  obtain rfl:u=s:=by simpa using e
  exact hS w u hs)
 have key:∀w1,Off X w w1->∀w2,Off (fun k=>pm (ac.eval a)=some k) w1 w2->G w2 u:=fun w1 hw=>by
  obtain ⟨b',o',e,l',h1',h2',s,h3',h4⟩:=A w1 hw
  rw [hv] at e
  simp only [Value.pointer.injEq,Option.some.injEq,Addr.mk.injEq] at e
  obtain ⟨rfl,rfl,_⟩:=e
  obtain rfl:l' = [s]:=by simpa using h3'
  have hc':=h2' 0 s rfl
  rw [Nat.add_zero,World.cell?_of_block (hw.2 b (World.block_lt_of_cell? _ _ hc) hX'),hc] at hc'
  obtain rfl:=Option.some.inj hc'
  exact h4
 obtain ⟨p',n',c',rfl⟩:=hS _ _ (key w (Off.refl _ _) w (Off.refl _ _))
 refine ⟨.slice p' n' c',w,?_,ba w none,⟨⟨⟨⟨_,_,_,rfl⟩,fun _ h=>by cases h⟩,fun r hr=>by cases hr⟩,trivial⟩,fun w1 hw=>?_⟩
 ·unfold execOp
  simp [ho,hv,Instr.loadAt,Instr.sureAddr,loadVar,fE hT,hc]
 ·rw [hy]
  exact ⟨ac.eval a,_,by simp,key w1 hw⟩
theorem rc (hp:Φ p=At 1) (hq:Φ q=LJ G) (hx:Φ x=LK G) (X:Nat->Prop) (w:World) (v:Value) (h:(Arg.parts (.agg [.s,.i,.p,.s]) [(0,3,p),(2,2,q)]).ok Φ X w v):(Arg.fact x).ok Φ X w v:=fun w1 hw=>by
 obtain ⟨⟨vs,rfl,hvs⟩,hf⟩:=h
 match vs,hvs with
 | [r,i,p',s],_=>
  have h1:=hf (0,3,p) (by simp) w1 hw
  have h2:=hf (2,2,q) (by simp) w1 hw
  rw [hp] at h1
  rw [hq] at h2
  rw [hx]
  obtain ⟨b,off,n,c,k,e1⟩:=h1
  obtain ⟨p2,s2,e2,h2⟩:=h2
  simp [bh,cellsOf,Value.cells] at e1 e2
  obtain ⟨rfl,rfl,rfl⟩:=e1
  obtain ⟨rfl,rfl⟩:=e2
  exact ⟨_,_,_,_,rfl,h2⟩
theorem rf (hG:cg G) (hq:Φ q=LK G) (hx:∀w v,G w v->Φ x w v) (X:Nat->Prop) (w:World) (v i p s:Value) (h:∀w1,Off X w w1->Φ q w1 (.agg #[v,i,p,s])):∀w1,Off (fun k=>X k∨blk v=some k) w w1->Φ x w1 s:=fun w1 hw=>by
 have A:∀w1,Off X w w1->∀w2,Off (fun k=>blk v=some k) w1 w2->G w2 s:=fun w1 hw=>by
  have:=h w1 hw
  rw [hq] at this
  obtain ⟨r',i',p',s',e,h⟩:=this
  simp only [Value.agg.injEq,Array.mk.injEq,List.cons.injEq,and_true] at e
  obtain ⟨rfl,rfl,rfl,rfl⟩:=e
  exact h
 exact hx _ _ (hG X (fun k=>blk v=some k) w s (fun w1 hw=>A w1 hw w1 (Off.refl _ _)) (A w (Off.refl _ _)) w1 hw)
end
theorem aE.to {e:TypeId}{F G:PH}{n:Nat}{w:World}{v:Value} (h:aE e F n w v) (hf:∀i w v,i<n->F i w v->G i w v):aE e G n w v:=
 aC.to (sz:=1) (n:=n) h fun i _ _ hi ⟨s,e,h⟩=>⟨s,e,fun w2 hw2=>hf i w2 s hi (h w2 hw2)⟩
def jz (T:TypeId):Op->Option (List Operand)
 | .slice t x (some l) none none=>if t=T then some [x,l] else none
 | _=>none
theorem Jq {T:TypeId}{o:Op}{xs:List Operand} (h:jz T o=some xs):∃y z,o = .slice T y (some z) none none∧xs = [y,z]:=by
 unfold jz at h
 split at h
 case h_2=>cases h
 rename_i t y z
 split at h
 case isFalse=>cases h
 rename_i ht
 subst ht
 simp only [Option.some.injEq] at h
 exact ⟨y,z,rfl,h.symm⟩
theorem Mv {P:Program}{Φ:PH}{p q x sz n m:Nat}{T e:TypeId}{F:PH} (hT:P.underlying T=some (.slice e)) (hz:cG P e=some sz) (hp:∀w v,Φ p w v->Rw sz F n w v) (hq:∀w v,Φ q w v->v = .int .i64 (m:Int)) (hm':m<=n) (hx:Φ x=Rw sz (fun i=>F (m+i)) (n-m)):aj Φ P ⟨0,[.fact p,.fact q],[oS x],.quiet (jz T)⟩:=fun X w ac o xs _ hm ha=>by
 obtain ⟨y,z,ho,rfl⟩:=Jq hm
 obtain ⟨s,c,hv,hc,he⟩:=hp _ _ (ha.1 w (Off.refl _ _))
 have hi2:=hq _ _ (ha.2.1 w (Off.refl _ _))
 refine ⟨.slice (if c=m then s else s.map (·.add (m*sz))) (n-m) (c-m),w,?_,ba w none,cm ⟨⟨_,_,_,rfl⟩,fun _ h=>by cases h⟩ hx fun w1 hw=>?_⟩
 ·unfold execOp
  simp only [ho,Option.map_none,Option.map_some,hv,hi2]
  simp [Instr.sliceAt,Instr.slice,run_underlying hT,Instr.sliceBounds,run_sliceBound (P:=P) w .i64 (m:Int) n .sliceB (by omega) (by omega),run_sizeOf hz]
 ·obtain ⟨s',c',hv',hc',he'⟩:=hp _ _ (ha.1 w1 hw)
  rw [hv] at hv'
  simp only [Value.slice.injEq,true_and] at hv'
  obtain ⟨rfl,rfl⟩:=hv'
  refine ⟨_,_,rfl,by omega,fun i hi=>?_⟩
  obtain ⟨b,off,rfl,l,h1,h2,h3⟩:=he' (m+i) (by omega)
  refine ⟨b,off+m*sz,?_,l,h1,fun j u hj=>?_,h3⟩
  ·rw [if_neg (by omega),Option.map_some,Addr.add_lit]
  ·rw [show off+m*sz+i*sz+j=off+(m+i)*sz+j by rw [Nat.add_mul];omega]
   exact h2 j u hj
def two (A B:PH) (a b:Nat) (c:Nat):WP:=Rw 1 (ah (if c=0 then A else B)) (if c=0 then a else b)
theorem mj {sz n:Nat}{F:PH}{w:World}{v:Value} (h:Rw sz F n w v):v.cells = #[v]:=by
 obtain ⟨p,c,rfl,_⟩:=h;rfl
theorem Mw {Φ:PH}{p q x a b:Nat}{J:List Nat}{T e:TypeId}{zc:C}{A B:PH} (hT:Try.prog.underlying T=some (.slice e)) (hz:cG Try.prog e=some 1) (h0:zeroAt Try.prog e=some zc) (hp:∀w v,Φ p w v->Rw 1 (ah A) a w v) (hq:∀w v,Φ q w v->Rw 1 (ah B) b w v) (hx:Φ x=Rw 1 (ah (two A B a b)) 2) :
  aj Φ Try.prog ⟨0,[.any,.fact p,.fact q],[oS x],.fresh J (du T 2)⟩:=
 fw (ps:=[p,q]) (sz:=1) hT hz (by omega) h0 (by omega) (by omega) rfl (fun i p' h w v hv=>by
  match i,h with
  | 0,h=>
   obtain rfl:=Option.some.inj h
   exact ⟨by rw [mj (hp w v hv)];rfl,v,by rw [mj (hp w v hv)],hp w v hv⟩
  | 1,h=>
   obtain rfl:=Option.some.inj h
   exact ⟨by rw [mj (hq w v hv)];rfl,v,by rw [mj (hq w v hv)],hq w v hv⟩
  | i+2,h=>simp at h) hx
theorem MU {Φ:PH}{p x n j:Nat}{t e:TypeId} (hU:Try.prog.underlying t=some (.slice e)) (hI:(Try.prog.info? e).map (fun i=>(i.zero,i.size,i.bytes))=some (some (.slice none 0 0),1,24)) (hp:∀w v,Φ p w v->v = .int .i64 (n:Int)) (hn:n<=1000000) (hx:Φ x=fun w v=>aE e (fun _ _ v=>v = .slice none 0 0) n w v) :
  aj Φ Try.prog ⟨0,[.fact p,.fact p],[oS x],.loose [] j 0 (dZ t)⟩:=fun X L w ac o xs hX hL hLX hm ha hb hbs=>by
 obtain ⟨i0,hi,hz0,hz1,hz2⟩:=info_parts hI
 have key:aj (fun y w v=>y≠n+x+p+1∧Φ y w v∨y=n+x+p+1∧aC 1 e (fun _ _ u=>u = .agg #[.slice none 0 0]) n w v) Try.prog ⟨0,[.fact p,.fact p],[⟨.one .s,[(0,0,n+x+p+1)]⟩],.loose [] j 0 (dZ t)⟩:=
  ol (F:=fun _ _ u=>u = .agg #[.slice none 0 0]) hU hi hz0 hz1 hz2 rfl (by omega) (by omega) (fun u hu=>by
   have:u = .slice none 0 0:=by simpa [Value.cells] using hu
   subst this
   exact fun _ _ _ h=>by cases h) (fun w v h=>by
    rcases h with h | h
    ·exact hp w v h.2
    ·omega) hn (fun _ _=>rfl) (by funext w v;simp)
 have hA:∀{Y:Nat->Prop}{v:Value},(Arg.fact p).ok Φ Y w v->(Arg.fact p).ok (fun y w v=>y≠n+x+p+1∧Φ y w v∨y=n+x+p+1∧aC 1 e (fun _ _ u=>u = .agg #[.slice none 0 0]) n w v) Y w v:=fun h w1 hw=>.inl ⟨by omega,h w1 hw⟩
 obtain ⟨y,u,hys⟩:∃y u,xs.map ac.eval = [y,u]:=by
  match xs.map ac.eval,ha with
  | [y,u],_=>exact ⟨y,u,rfl⟩
 rw [show List.map ac.eval xs = [y,u] from hys] at ha hbs
 obtain ⟨u',w',r,g1,g2,g3,g4,g5,g6,⟨g7,g8⟩,-⟩:=key X L w ac o xs hX hL hLX hm (by
  show bN _ _ _ _ (List.map ac.eval xs)
  rw [hys];exact ⟨hA ha.1,hA ha.2.1,trivial⟩) hb (by
  show bN _ _ _ _ (List.map ac.eval xs)
  rw [hys];exact ⟨trivial,hA hbs.2.1,trivial⟩)
 refine ⟨u',w',r,g1,g2,g3,g4,g5,g6,cm g7 hx fun w1 hw=>?_⟩
 rcases g8 (0,0,n+x+p+1) (List.mem_singleton.2 rfl) w1 hw with h | h
 ·exact absurd rfl h.1
 ·exact aC.to (sz:=1) (n:=n) h.2 fun i w v _ h=>⟨_,h,fun _ _=>rfl⟩
theorem qx {Φ:PH}{q x n j:Nat}{t e:TypeId} (hU:Try.prog.underlying t=some (.slice e)) (hI:(Try.prog.info? e).map (fun i=>(i.zero,i.size,i.bytes))=some (some (.slice none 0 0),1,24)) (hq:∀w v,Φ q w v->v = .int .i64 (n:Int)) (h0:0<n) (hn:n<=1000000) (hx:Φ x=kX 1 e):aj Φ Try.prog ⟨0,[.lit .nl,.fact q],[oS x],.loose [] j 0 (cf t 3)⟩:=fun X L w ac o ys hX hL hLX hm ha hb _=>by
 obtain ⟨y,u,hys⟩:∃y u,ys.map ac.eval = [y,u]:=by
  match ys.map ac.eval,ha with
  | [y,u],_=>exact ⟨y,u,rfl⟩
 rw [show List.map ac.eval ys = [y,u] from hys] at ha
 obtain ⟨a,b,ho,rfl,ea,eb⟩:=mh hm hys
 have hy:y = .slice none 0 0:=ha.1
 have hu:=hq _ _ (ha.2.1 w (Off.refl _ _))
 obtain ⟨i0,hi,hz0,hz1,hz2⟩:=info_parts hI
 have hcm:grownCap w (0+n) 0 e<=maxLen:=grownCap_le_maxLen w (0+n) 0 e (by simp only [maxLen];omega)
 have hge:=grownCap_ge w (0+n) 0 e
 have hr:=Lib.run_append_grow_zeros (P:=Try.prog) w t 3 o.type e i0 _ .i64 .i64 hU Try.underlying3 hi hz0 none 0 0 [] (by simp [Builtin.firstCells]) n h0 (by rw [hz1];omega) (by omega) (by omega) (by rw [hz2];omega) (growslice_fits (by omega) (by rw [hz2];omega))
 have hrun:=kB (o:=o) (P:=Try.prog) ho (by rw [ea,hy]) (by rw [eb,hu]) hr
 have hgr:∀b,w.grownBy (w.drew.alloc b) none:=fun b=>⟨rfl,rfl,rfl,(World.grownBy_alloc w.drew b none).size,(World.grownBy_alloc w.drew b none).block⟩
 have nn:∀u:Value,u ∈ (Value.slice none 0 0).cells.toList->KT u:=fun u hu=>by
  have:u = .slice none 0 0:=by simpa [Value.cells] using hu
  subst this
  exact fun _ _ _ h=>by cases h
 refine ⟨_,_,none,hrun,hgr _,(fun _ h=>by cases h),Kp.of (hgr _),(fun m q v _ h4 h5=>⟨cell_grown (hgr _) h4,eL (hgr _) h4 h5⟩),fun m hm'=>?_,cm ⟨⟨_,_,_,rfl⟩,fun _ h=>by cases h⟩ hx fun w1 hw=>?_⟩
 ·simp only [blk,Option.some.injEq] at hm'
  subst hm'
  exact ⟨by simp,.inr (Nat.le_refl _)⟩
 ·refine ⟨w.heap.size,_,_,_,rfl,(hw.2 w.heap.size (by simp) (fun h=>by have:=hX _ h;omega)).trans (heap_alloc_new w.drew _),hcm,?_,fun u hu=>?_⟩
  ·simp only [Array.size_append,List.size_toArray,List.length_nil,size_zeroCells,Nat.zero_add] at hge ⊢
   rw [show (Value.slice none 0 0).cells.size=1 from rfl]
   omega
  ·simp only [Array.toList_append,List.mem_append] at hu
   rcases hu with (hu | hu) | hu
   ·simp at hu
   ·exact iB nn (by decide) _ u hu
   ·exact iB nn (by decide) _ u hu
def bM (N:Nat->Nat):Nat->Nat
 | 0=>0
 | j+1=>bM N j+N j
def cC (F:Nat->PH) (N:Nat->Nat):Nat->PH
 | 0,_=>fun _ _=>False
 | j+1,i=>if i<bM N j then cC F N j i else F j (i-bM N j)
theorem vC {F:Nat->PH}{N:Nat->Nat} (hF:∀c i,cg (F c i)):∀j i,cg (cC F N j i)
 | 0,_=>fun _ _ w _ hX _ _ _=>(hX w (Off.refl _ _)).elim
 | j+1,i=>by
  rw [cC]
  split
  ·exact vC hF j i
  ·exact hF _ _
theorem qD {Φ:PH}{p q x j i:Nat}{t e:TypeId}{F:Nat->PH}{N:Nat->Nat} (hU:Try.prog.underlying t=some (.slice e)) (hI:(Try.prog.info? e).map (fun i=>(i.zero,i.size,i.bytes))=some (some (.slice none 0 0),1,24)) (hS:∀c i w s,F c i w s->∃p n c,s = .slice p n c) (hF:∀c i,cg (F c i)) (hn:bM N (i+1)<=1000000) (hp:∀w v,Φ p w v->aE e (cC F N i) (bM N i) w v) (hq:∀w v,Φ q w v->Rw 1 (ah (F i)) (N i) w v) (hx:Φ x=aE e (cC F N (i+1)) (bM N (i+1))):aj Φ Try.prog ⟨0,[.fact p,.fact q],[oS x],.loose [] j 0 (cf t t)⟩:=
 Jp (F':=cC F N (i+1)) hU hI (hS i) (vC hF i) hp hq (fun ι w v hι h=>by rw [cC,if_pos hι];exact h) (fun ι w v hι h=>by rw [cC,if_neg (by omega),Nat.add_sub_cancel_left];exact h) hn hx
theorem Mx {Φ:PH}{p q n:Nat}{e:TypeId}{F:PH} (hp:∀w v,Φ p w v->aE e F n w v) (hq:Φ q=Lm n):∀(w w':World) (v:Value),Φ p w v->Φ q w' v:=fun w w' v h=>by
 rw [hq]
 obtain ⟨p,c,rfl,_⟩:=(hp w v h).rw
 exact ⟨p,c,rfl⟩
def FB (A G:PH) (r i:Nat):WP:=if i<r then G i else A i
theorem jD {A G:PH} (hA:∀i,cg (A i)) (hG:∀i,cg (G i)) (r i:Nat):cg (FB A G r i):=by
 unfold FB
 split
 ·exact hG i
 ·exact hA i
theorem lc {A G:PH}{r:Nat}{w:World}{v:Value} (h:FB A G r r w v):A r w v:=by
 unfold FB at h
 rwa [if_neg (Nat.lt_irrefl r)] at h
theorem na {A G:PH}{r:Nat}{w:World}{v:Value} (h:G r w v):FB A G (r+1) r w v:=by
 unfold FB
 rwa [if_pos (Nat.lt_succ_self r)]
theorem LV {A G:PH}{r k:Nat}{w:World}{v:Value} (hk:k≠r) (h:FB A G r k w v):FB A G (r+1) k w v:=by
 unfold FB at h ⊢
 split
 ·rwa [if_pos (by omega)] at h
 ·rwa [if_neg (by omega)] at h
theorem LW {A G:PH}{e:TypeId}{n:Nat}{w:World}{v:Value} (h:aE e A n w v):aE e (FB A G 0) n w v:=h.to fun i w v _ h=>by
 unfold FB
 rwa [if_neg (Nat.not_lt_zero i)]
theorem lD {A G:PH}{e:TypeId}{n:Nat}{w:World}{v:Value} (h:aE e (FB A G n) n w v):aE e G n w v:=h.to fun i w v hi h=>by
 unfold FB at h
 rwa [if_pos hi] at h
def gV (n:Nat) (_:World) (v:Value):Prop:=∃b off c,v = .slice (some ⟨b,off,none⟩) n c
theorem kv {Φ:PH}{p q n:Nat}{e:TypeId}{F:PH} (h0:0<n) (hp:∀w v,Φ p w v->aE e F n w v) (hq:Φ q=gV n):∀(w w':World) (v:Value),Φ p w v->Φ q w' v:=fun w w' v h=>by
 rw [hq]
 obtain ⟨p,c,rfl,_,he⟩:=(hp w v h).rw
 obtain ⟨b,off,rfl,_⟩:=he 0 h0
 exact ⟨b,off,c,rfl⟩
theorem jJ {P:Program}{Φ:PH}{p q y n i:Nat}{T e:TypeId}{J:List Nat} (hT:P.underlying T=some (.slice e)) (hz:cG P e=some 1) (hp:∀w v,Φ p w v->gV n w v) (hq:∀w v,Φ q w v->v = .int .i64 (i:Int)) (hi:i<n) (hy:Φ y=At 1) :
  aj Φ P ⟨0,[.fact p,.fact q],[⟨.one .p,[]⟩],.joint J y (aI T)⟩:=fun X w ac o xs hX hm ha=>by
 unfold aI at hm
 split at hm
 case h_2=>cases hm
 rename_i t a b ho
 split at hm
 case isFalse=>cases hm
 rename_i ht
 subst ht
 simp only [Option.some.injEq] at hm
 subst hm
 obtain ⟨g,off,c,hv⟩:=hp _ _ (ha.1 w (Off.refl _ _))
 have hi2:=hq _ _ (ha.2.1 w (Off.refl _ _))
 have hr:(execOp ac.eval o).run P w = .ok (.value (.pointer (some ⟨g,off+i*1,none⟩))) w:=by
  unfold execOp
  have h4:¬n<=i:=by omega
  simp [ho,hv,hi2,Instr.indexAt,asIntOf,run_underlying hT,run_sizeOf hz,hH,h4]
 refine ⟨_,w,hr,ba w none,⟨⟨⟨⟨_,rfl⟩,fun _ h=>by cases h⟩,fun r hr=>by cases hr⟩,trivial⟩,fun w1 _=>?_⟩
 rw [hy]
 exact ⟨g,off,n,c,i,by simp [hv,hi2]⟩
def iY (T:TypeId) (xS xI:Operand):Op->Option (List Operand)
 | .load t x=>if t=T then some [xS,xI,x] else none
 | _=>none
theorem kA {P:Program}{Φ:PH}{p x y j:Nat}{G:WP}{T:TypeId} (xS xI:Operand) (hT:fD P T=some false) (hU:cg G) (hS:∀w s,G w s->∃p n c,s = .slice p n c) (hp:∀w v,Φ p w v->fV G w v) (hy:Φ y=At 1) (hx:Φ x=G):aj Φ P ⟨0,[.any,.any,.fact p],[oS x],.bS [] j 0 y (iY T xS xI)⟩:=fun X w ac o xs hX hm ha hjt=>by
 unfold iY at hm
 split at hm
 case h_2=>cases hm
 rename_i t a ho
 split at hm
 case isFalse=>cases hm
 rename_i ht
 subst ht
 simp only [Option.some.injEq] at hm
 subst hm
 have A:∀w1,Off X w w1->fV G w1 (ac.eval a):=fun w1 hw=>hp _ _ (ha.2.2.1 w1 hw)
 obtain ⟨b,off,u,hv,hX',hc⟩:=Mu (F:=fun w u=>∃s,u = .agg #[s]∧G w s) (fun w1 hw=>by
  obtain ⟨b,off,hv,l,h1,h2,s,h3,h4⟩:=A w1 hw
  exact ⟨b,off,hv,l,h1,h2,s,h3,h4 w1 (Off.refl _ _)⟩) (fun w u ⟨s,e,hs⟩=>by
  obtain rfl:u=s:=by simpa using e
  exact hS w u hs)
 have key:∀w1,Off X w w1->∀w2,Off (fun k=>pm (ac.eval a)=some k) w1 w2->G w2 u:=fun w1 hw=>by
  obtain ⟨b',o',e,l',h1',h2',s,h3',h4⟩:=A w1 hw
  rw [hv] at e
  simp only [Value.pointer.injEq,Option.some.injEq,Addr.mk.injEq] at e
  obtain ⟨rfl,rfl,_⟩:=e
  obtain rfl:l' = [s]:=by simpa using h3'
  have hc':=h2' 0 s rfl
  rw [Nat.add_zero,World.cell?_of_block (hw.2 b (World.block_lt_of_cell? _ _ hc) hX'),hc] at hc'
  obtain rfl:=Option.some.inj hc'
  exact h4
 obtain ⟨p',n',c',rfl⟩:=hS _ _ (key w (Off.refl _ _) w (Off.refl _ _))
 refine ⟨.slice p' n' c',w,?_,ba w none,fun x0 hx0=>?_⟩
 ·unfold execOp
  simp [ho,hv,Instr.loadAt,Instr.sureAddr,loadVar,fE hT,hc]
 ·simp only [List.getElem?_cons_zero,Option.some.injEq] at hx0
  subst hx0
  refine cm ⟨⟨_,_,_,rfl⟩,fun _ h=>by cases h⟩ hx fun w1 hw=>?_
  have hAt:=hjt w (Off.refl _ _)
  rw [hy] at hAt
  obtain ⟨g,Ll,n1,c,k,hAt⟩:=hAt
  simp only [List.map_cons,List.map_nil,Value.agg.injEq,Array.mk.injEq,List.cons.injEq,and_true] at hAt
  obtain ⟨h1,-,h3⟩:=hAt
  have hb:pm (ac.eval a)=blk (ac.eval xS):=by rw [h1,h3];rfl
  exact hU X (fun k=>blk (ac.eval xS)=some k) w _ (fun w1 hw=>key w1 hw w1 (Off.refl _ _)) (fun w2 hw2=>key w (Off.refl _ _) w2 (by rw [hb];exact hw2)) w1 hw
def wX (n:Nat):List WP:=[Nz n,Nz n,kX 1 22,aC 1 22 (fun _ _ _=>False) 0]
def wY:List Step:=[bQ [.fact 0,.lit (.ci .i64 0)] oF (ai .lss),
   bQ [.lit .nl] [oL (.ci .i64 0)] (fR 24),
   bQ [.lit .nl] [oL (.ci .i64 0)] (aD 24),
   bQ [.fact 0,.lit (.ci .i64 0)] [oN 1] (ai .sub),
   bQ [.fact 1,.lit (.ci .i64 0)] oT (ai .gtr),
   bQ [.lit .nl] [oL (.ci .i64 0)] (fR 24),
   bQ [.lit .nl,.lit (.ci .i64 0)] [⟨.one (.lit (.nl)),[]⟩] (dq 24),
   .base ⟨0,[.lit .nl,.fact 1],[oS 2],.loose [] 1 0 (cf 24 3)⟩,
   bQ [.lit .nl] [oL (.ci .i64 0)] (aD 24),
   .base ⟨0,[.fact 2,.lit (.ci .i64 0)],[oS 3],.loose [] 1 0 (dq 24)⟩]
def wZ:List Out:=[⟨.one (.lit (.nl)),[]⟩,oN 0]
theorem MV {n:Nat} (hn:n<=1000000) (h0:0<n):dJ (ph (wX n)) Try.prog ⟨85,[.lit (.nl),.fact 0],[oS 3],false⟩:=by
 skip
 exact jq wZ [oS 3] wY Try.func85 (by kernel_rfl)
  (lB (bi (op:=.lss) aa (aS (show decide (((n:Nat):Int)<0)=false from decide_eq_false (by omega)) (by simp)))
   (lB (iC Try.underlying24)
   (lB (dW Try.underlying24)
   (lB (Lc aa (by omega) rfl (by omega) (by omega))
   (lB (ed aa)
   (lB (iC Try.underlying24)
   (lB (qv (sz:=1) Try.underlying24 (by kernel_rfl))
   (lB (qx Try.underlying24 (by kernel_rfl) aa (by omega) (by omega) rfl)
   (lB (dW Try.underlying24)
   (lB (qw (F:=(fun _ _ _=>False)) Try.underlying24 (by kernel_rfl) aa rfl)
   aA))))))))))
  (aJ [.lit (.nl),.fact 0 (.one (.i))] ⟨(fun _ h=>by cases h),fun _ _ h=>h▸aQ _,trivial⟩) (fun _ _ _ h=>h)
def xa (n:Nat):List WP:=[Nz n,Nz n]
def xb:List Step:=[bQ [.fact 0,.lit (.ci .i64 0)] oF (ai .lss),
   bQ [.lit .nl] [oL (.ci .i64 0)] (fR 24),
   bQ [.lit .nl] [oL (.ci .i64 0)] (aD 24),
   bQ [.fact 0,.lit (.ci .i64 0)] [oN 1] (ai .sub),
   bQ [.fact 1,.lit (.ci .i64 0)] oF (ai .gtr)]
def qK:List Out:=[⟨.one (.lit (.nl)),[]⟩,oN 0]
theorem xd {n:Nat} (h0:n=0):aj (ph (xa n)) Try.prog ⟨85,[.lit (.nl),.fact 0],[⟨.one (.lit (.nl)),[]⟩],false⟩:=by
 skip
 exact aR qK [⟨.one (.lit (.nl)),[]⟩] xb Try.func85 (by kernel_rfl)
  (lB (bi (op:=.lss) aa (aS (show decide (((n:Nat):Int)<0)=false from decide_eq_false (by omega)) (by simp)))
   (lB (iC Try.underlying24)
   (lB (dW Try.underlying24)
   (lB (Lc aa (by omega) rfl (by omega) (by omega))
   (lB (dr aa)
   aA)))))
  (aJ [.lit (.nl),.fact 0 (.one (.i))] ⟨(fun _ h=>by cases h),fun _ _ h=>h▸aQ _,trivial⟩) (fun _ _ _ h=>h)
theorem xe {Φ:PH}{q x n j:Nat}{J:List Nat}{F:PH} (hq:∀w v,Φ q w v->v = .int .i64 (n:Int)) (hx:Φ x=aE 22 F 0) (hn:n<=1000000):aj Φ Try.prog ⟨85,[.lit .nl,.fact q],[oS x],.ee J j⟩:=by
 rcases Nat.eq_zero_or_pos n with h | h
 ·intro X w vs hX ha
  refine (aT (outs:=[⟨.one (.lit .nl),[]⟩]) (Φ:=Φ) (ar:=[.lit .nl,.fact q]) (xd (n:=n) h) ⟨rfl,hq,trivial⟩ ⟨⟨rfl,trivial⟩,trivial⟩ X w vs hX ha).mono fun e w' ⟨hg,us,he,h2⟩=>?_
  match us,h2 with
  | [u],h2=>
   have e':u = .slice none 0 0:=h2.1.1.1
   subst e'
   exact ⟨hg,_,he,cm ⟨⟨_,_,_,rfl⟩,fun _ h=>by cases h⟩ hx fun w1 _=>aE.nil _ _ _,fun g hg'=>by cases hg'⟩
 ·exact jr (MV (n:=n) hn h) ⟨rfl,hq,trivial⟩ ⟨⟨rfl,⟨rfl,rfl,fun _ _ h=>by
   rw [hx]
   exact aE.qy (G:=fun _ _ _=>False) h⟩,trivial⟩,trivial⟩
def jt (F:Nat->PH) (N:Nat->Nat) (n:Nat):List WP:=[Rw 1 (ah (fun c=>Rw 1 (ah (F c)) (N c))) n,Nz n,Nz ((bM N n)),aE 22 (cC F N 0) (bM N 0),Nz n,aE 22 (cC F N n) (bM N n)]
def xf (F:Nat->PH) (N:Nat->Nat) (j:Nat):List WP:=[Nz j,aE 22 (cC F N j) (bM N j),fun _ _=>True,Ptr 1 (ah (fun c=>Rw 1 (ah (F c)) (N c)) j),Rw 1 (ah (F j)) (N j),aE 22 (cC F N (j+1)) (bM N (j+1)),Nz (j+1)]
def qz:bf:=⟨[0,2,3,9,10,11,12,23,24,25,26],[(.slot 27,.i),(.slot 6,.s)],[(.one 0,6),(.one 1,.bT [1] 7),(.one 1,.lo 1)],[.closed (.one (.ci .i64 0)),.frm 3,.frm 0],6,[(7,5)]⟩
def qA:List Step:=[bQ [.fact 6,.fact 4] oT (ai .lss),
   bQ [.fact 0,.fact 6] [oP 9] (aI 112),
   bQ [.fact 9] [oS 10] (aL 24),
   .base ⟨0,[.fact 7,.fact 10],[oS 11],.loose [] 1 0 (cf 24 24)⟩,
   bQ [.fact 6,.lit (.ci .i64 1)] [oN 12] (ai .add)]
def xg:List Step:=[bQ [.fact 6,.fact 4] oF (ai .lss)]
def xh (F:Nat->PH) (N:Nat->Nat) (j:Nat):List WP:=[Nz j,Nz ((bM N j)),Ptr 1 (ah (fun c=>Rw 1 (ah (F c)) (N c)) j),Rw 1 (ah (F j)) (N j),Nz (N j),Nz ((bM N (j+1))),Nz (j+1)]
def qB:bf:=⟨[0,2,9,10],[(.slot 11,.i),(.slot 3,.i)],[(.one 0,6),(.one 1,7)],[.closed (.one (.ci .i64 0)),.closed (.one (.ci .i64 0))],6,[(7,2)]⟩
def qC:List Step:=[bQ [.fact 6,.fact 1] oT (ai .lss),
   bQ [.fact 0,.fact 6] [oP 8] (aI 112),
   bQ [.fact 8] [oS 9] (aL 24),
   bQ [.fact 9] [oN 10] (aD 24),
   bQ [.fact 7,.fact 10] [oN 11] (ai .add),
   bQ [.fact 11,.lit (.ci .i64 0)] oF (ai .lss),
   bQ [.fact 6,.lit (.ci .i64 1)] [oN 12] (ai .add)]
def xi:List Step:=[bQ [.fact 6,.fact 1] oF (ai .lss)]
def xj:List Step:=[bQ [.fact 0] [oN 1] (aD 112),
   .loop qB [(qC,[.frm 12,.frm 11])] xi,
   .base ⟨85,[.lit .nl,.fact 2],[oS 3],.ee [] 1⟩,
   bQ [.fact 0] [oN 4] (aD 112),
   .loop qz [(qA,[.frm 12,.frm 11,.frm 0])] xg]
def xk:List Out:=[oS 0]
theorem xm {F:Nat->PH}{N:Nat->Nat}{n:Nat} (hn:n<=1000) (hs:∀j,j<=n->bM N j<=1000000) (hS:∀c i w s,F c i w s->∃p n c,s = .slice p n c) (hF:∀c i,cg (F c i)):dJ (ph (jt F N n)) Try.prog ⟨63,[.fact 0],[oS 5],false⟩:=by
 have hsn:=hs n (Nat.le_refl n)
 exact jq xk [oS 5] xj Try.func63 (by kernel_rfl)
  (lB (aG (F:=(ah (fun c=>Rw 1 (ah (F c)) (N c)))) Try.underlying112 aa rfl)
   (bI (counted n (fun j=>ph (jt F N n ++ xh F N j)) (fun _=>0) (fun j p hp=>bJ (show p<(jt F N n).length from hp)) ⟨fun _=>rfl,fun _=>rfl,trivial⟩ (fun j hj=>by
   have hs1:=hs (j+1) (by omega);have hs0:=hs j (by omega)
   exact ⟨(qC,[.frm 12,.frm 11]),rfl,⟨aa,aa,trivial⟩,(lB (bm aa aa)
   (lB (bc (i:=j) (F:=(ah (fun c=>Rw 1 (ah (F c)) (N c)))) Try.underlying112 (by kernel_rfl) aa aa (by omega) rfl)
   (lB (KU (G:=Rw 1 (ah (F j)) (N j)) (by kernel_rfl) aa (fun _ _ h=>bO h) rfl)
   (lB (aG (F:=(ah (F j))) Try.underlying24 aa rfl)
   (lB (cS aa aa (by rw [bM];omega) rfl (by omega) (by omega))
   (lB (bi (op:=.lss) aa (aS (show decide (((((bM N (j+1))):Nat):Int)<0)=false from decide_eq_false (by omega)) (by simp)))
   (lB (bt aa (by omega) rfl (by omega) (by omega))
   aA)))))))⟩)
   (lB (tlF aa aa)
   aA)
   (fun q hq w v h=>by
    simp only [qB,List.mem_cons,List.not_mem_nil,or_false] at hq
    rcases hq with rfl
    ·exact (fun h=>h) h)) (lB (xe (F:=cC F N 0) aa rfl (by omega))
   (lB (aG (F:=(ah (fun c=>Rw 1 (ah (F c)) (N c)))) Try.underlying112 aa rfl)
   (bI (counted n (fun j=>ph (jt F N n ++ xf F N j)) (fun _=>0) (fun j p hp=>bJ (show p<(jt F N n).length from hp)) ⟨fun _=>rfl,aa,aW,trivial⟩ (fun j hj=>by
   skip
   exact ⟨(qA,[.frm 12,.frm 11,.frm 0]),rfl,⟨aa,aa,aW,trivial⟩,(lB (bm aa aa)
   (lB (bc (i:=j) (F:=(ah (fun c=>Rw 1 (ah (F c)) (N c)))) Try.underlying112 (by kernel_rfl) aa aa (by omega) rfl)
   (lB (KU (G:=Rw 1 (ah (F j)) (N j)) (by kernel_rfl) aa (fun _ _ h=>bO h) rfl)
   (lB (qD (i:=j) Try.underlying24 (by kernel_rfl) hS hF (hs (j+1) (by omega)) aa aa rfl)
   (lB (bt aa (by omega) rfl (by omega) (by omega))
   aA)))))⟩)
   (lB (tlF aa aa)
   aA)
   (fun q hq w v h=>by
    simp only [qz,List.mem_cons,List.not_mem_nil,or_false] at hq
    rcases hq with rfl
    ·exact (fun h=>h) h)) aA)))))
  (aJ [.fact 0 (.one (.s))] ⟨Rw.Is 1 (ah (fun c=>Rw 1 (ah (F c)) (N c))) n,trivial⟩) bg
theorem xn {Φ:PH}{p x a b m:Nat}{J:List Nat}{j:Nat}{A B C:PH} (hp:∀w v,Φ p w v->Rw 1 (ah (two A B a b)) 2 w v) (hx:Φ x=aE 22 C m) (hm:a+b=m) (hab:a+b<=1000000) (hA:∀i w s,A i w s->∃p n c,s = .slice p n c) (hB:∀i w s,B i w s->∃p n c,s = .slice p n c) (uA:∀i,cg (A i)) (uB:∀i,cg (B i)) (hAC:∀i w v,i<a->A i w v->C i w v) (hBC:∀i w v,i<b->B i w v->C (a+i) w v) :
  aj Φ Try.prog ⟨63,[.fact p],[oS x],.ee J j⟩:=by
 subst hm
 exact jr (xm (F:=fun c=>if c=0 then A else B) (N:=fun c=>if c=0 then a else b) (n:=2) (by omega) (fun j hj=>by
  rcases (show j=0∨j=1∨j=2 by omega) with rfl | rfl | rfl <;> simp [bM] <;> omega) (fun c i w s h=>by
  split at h
  ·exact hA _ _ _ h
  ·exact hB _ _ _ h) (fun c i=>by
  split
  ·exact uA _
  ·exact uB _)) ⟨fun _ _ h=>hp _ _ h,trivial⟩ ⟨⟨rfl,⟨rfl,rfl,fun w v h=>by
  rw [hx]
  have h':aE 22 (cC (fun c=>if c=0 then A else B) (fun c=>if c=0 then a else b) 2) (a+b) w v:=by
   have e2:bM (fun c=>if c=0 then a else b) 2=a+b:=by simp [bM]
   rw [<- e2];exact h
  refine h'.to fun i w v hi h=>?_
  have e1:bM (fun c=>if c=0 then a else b) 1=a:=by simp [bM]
  rw [cC,e1] at h
  by_cases hia:i<a
  ·rw [if_pos hia,cC,if_neg (show ¬i<bM (fun c=>if c=0 then a else b) 0 from Nat.not_lt_zero _)] at h
   exact hAC i w v hia h
  ·rw [if_neg hia] at h
   have:=hBC (i-a) w v (by omega) h
   rwa [show a+(i-a)=i by omega] at this⟩,trivial⟩,trivial⟩
def xo (n:Nat):List WP:=[Nz n,Nz n,kX 1 29,aC 1 29 (fun _ _ _=>False) 0]
def xp:List Step:=[bQ [.fact 0,.lit (.ci .i64 0)] oF (ai .lss),
   bQ [.lit .nl] [oL (.ci .i64 0)] (fR 22),
   bQ [.lit .nl] [oL (.ci .i64 0)] (aD 22),
   bQ [.fact 0,.lit (.ci .i64 0)] [oN 1] (ai .sub),
   bQ [.fact 1,.lit (.ci .i64 0)] oT (ai .gtr),
   bQ [.lit .nl] [oL (.ci .i64 0)] (fR 22),
   bQ [.lit .nl,.lit (.ci .i64 0)] [⟨.one (.lit (.nl)),[]⟩] (dq 22),
   .base ⟨0,[.lit .nl,.fact 1],[oS 2],.loose [] 1 0 (cf 22 3)⟩,
   bQ [.lit .nl] [oL (.ci .i64 0)] (aD 22),
   .base ⟨0,[.fact 2,.lit (.ci .i64 0)],[oS 3],.loose [] 1 0 (dq 22)⟩]
def xq:List Out:=[⟨.one (.lit (.nl)),[]⟩,oN 0]
theorem xr {n:Nat} (hn:n<=1000000) (h0:0<n):dJ (ph (xo n)) Try.prog ⟨86,[.lit (.nl),.fact 0],[oS 3],false⟩:=by
 skip
 exact jq xq [oS 3] xp Try.func86 (by kernel_rfl)
  (lB (bi (op:=.lss) aa (aS (show decide (((n:Nat):Int)<0)=false from decide_eq_false (by omega)) (by simp)))
   (lB (iC Try.underlying22)
   (lB (dW Try.underlying22)
   (lB (Lc aa (by omega) rfl (by omega) (by omega))
   (lB (ed aa)
   (lB (iC Try.underlying22)
   (lB (qv (sz:=1) Try.underlying22 (by kernel_rfl))
   (lB (qx Try.underlying22 (by kernel_rfl) aa (by omega) (by omega) rfl)
   (lB (dW Try.underlying22)
   (lB (qw (F:=(fun _ _ _=>False)) Try.underlying22 (by kernel_rfl) aa rfl)
   aA))))))))))
  (aJ [.lit (.nl),.fact 0 (.one (.i))] ⟨(fun _ h=>by cases h),fun _ _ h=>h▸aQ _,trivial⟩) (fun _ _ _ h=>h)
def xt (n:Nat):List WP:=[Nz n,Nz n]
def xu:List Step:=[bQ [.fact 0,.lit (.ci .i64 0)] oF (ai .lss),
   bQ [.lit .nl] [oL (.ci .i64 0)] (fR 22),
   bQ [.lit .nl] [oL (.ci .i64 0)] (aD 22),
   bQ [.fact 0,.lit (.ci .i64 0)] [oN 1] (ai .sub),
   bQ [.fact 1,.lit (.ci .i64 0)] oF (ai .gtr)]
def xw:List Out:=[⟨.one (.lit (.nl)),[]⟩,oN 0]
theorem xx {n:Nat} (h0:n=0):aj (ph (xt n)) Try.prog ⟨86,[.lit (.nl),.fact 0],[⟨.one (.lit (.nl)),[]⟩],false⟩:=by
 skip
 exact aR xw [⟨.one (.lit (.nl)),[]⟩] xu Try.func86 (by kernel_rfl)
  (lB (bi (op:=.lss) aa (aS (show decide (((n:Nat):Int)<0)=false from decide_eq_false (by omega)) (by simp)))
   (lB (iC Try.underlying22)
   (lB (dW Try.underlying22)
   (lB (Lc aa (by omega) rfl (by omega) (by omega))
   (lB (dr aa)
   aA)))))
  (aJ [.lit (.nl),.fact 0 (.one (.i))] ⟨(fun _ h=>by cases h),fun _ _ h=>h▸aQ _,trivial⟩) (fun _ _ _ h=>h)
theorem xy {Φ:PH}{q x n j:Nat}{J:List Nat}{F:PH} (hq:∀w v,Φ q w v->v = .int .i64 (n:Int)) (hx:Φ x=aE 29 F 0) (hn:n<=1000000):aj Φ Try.prog ⟨86,[.lit .nl,.fact q],[oS x],.ee J j⟩:=by
 rcases Nat.eq_zero_or_pos n with h | h
 ·intro X w vs hX ha
  refine (aT (outs:=[⟨.one (.lit .nl),[]⟩]) (Φ:=Φ) (ar:=[.lit .nl,.fact q]) (xx (n:=n) h) ⟨rfl,hq,trivial⟩ ⟨⟨rfl,trivial⟩,trivial⟩ X w vs hX ha).mono fun e w' ⟨hg,us,he,h2⟩=>?_
  match us,h2 with
  | [u],h2=>
   have e':u = .slice none 0 0:=h2.1.1.1
   subst e'
   exact ⟨hg,_,he,cm ⟨⟨_,_,_,rfl⟩,fun _ h=>by cases h⟩ hx fun w1 _=>aE.nil _ _ _,fun g hg'=>by cases hg'⟩
 ·exact jr (xr (n:=n) hn h) ⟨rfl,hq,trivial⟩ ⟨⟨rfl,⟨rfl,rfl,fun _ _ h=>by
   rw [hx]
   exact aE.qy (G:=fun _ _ _=>False) h⟩,trivial⟩,trivial⟩
def ju (F:Nat->PH) (N:Nat->Nat) (n:Nat):List WP:=[Rw 1 (ah (fun c=>Rw 1 (ah (F c)) (N c))) n,Nz n,Nz ((bM N n)),aE 29 (cC F N 0) (bM N 0),Nz n,aE 29 (cC F N n) (bM N n)]
def xz (F:Nat->PH) (N:Nat->Nat) (j:Nat):List WP:=[Nz j,aE 29 (cC F N j) (bM N j),fun _ _=>True,Ptr 1 (ah (fun c=>Rw 1 (ah (F c)) (N c)) j),Rw 1 (ah (F j)) (N j),aE 29 (cC F N (j+1)) (bM N (j+1)),Nz (j+1)]
def qE:bf:=⟨[0,2,3,9,10,11,12,23,24,25,26],[(.slot 27,.i),(.slot 6,.s)],[(.one 0,6),(.one 1,.bT [1] 7),(.one 1,.lo 1)],[.closed (.one (.ci .i64 0)),.frm 3,.frm 0],6,[(7,5)]⟩
def qF:List Step:=[bQ [.fact 6,.fact 4] oT (ai .lss),
   bQ [.fact 0,.fact 6] [oP 9] (aI 24),
   bQ [.fact 9] [oS 10] (aL 22),
   .base ⟨0,[.fact 7,.fact 10],[oS 11],.loose [] 1 0 (cf 22 22)⟩,
   bQ [.fact 6,.lit (.ci .i64 1)] [oN 12] (ai .add)]
def xA:List Step:=[bQ [.fact 6,.fact 4] oF (ai .lss)]
def xB (F:Nat->PH) (N:Nat->Nat) (j:Nat):List WP:=[Nz j,Nz ((bM N j)),Ptr 1 (ah (fun c=>Rw 1 (ah (F c)) (N c)) j),Rw 1 (ah (F j)) (N j),Nz (N j),Nz ((bM N (j+1))),Nz (j+1)]
def qG:bf:=⟨[0,2,9,10],[(.slot 11,.i),(.slot 3,.i)],[(.one 0,6),(.one 1,7)],[.closed (.one (.ci .i64 0)),.closed (.one (.ci .i64 0))],6,[(7,2)]⟩
def qH:List Step:=[bQ [.fact 6,.fact 1] oT (ai .lss),
   bQ [.fact 0,.fact 6] [oP 8] (aI 24),
   bQ [.fact 8] [oS 9] (aL 22),
   bQ [.fact 9] [oN 10] (aD 22),
   bQ [.fact 7,.fact 10] [oN 11] (ai .add),
   bQ [.fact 11,.lit (.ci .i64 0)] oF (ai .lss),
   bQ [.fact 6,.lit (.ci .i64 1)] [oN 12] (ai .add)]
def xC:List Step:=[bQ [.fact 6,.fact 1] oF (ai .lss)]
def xD:List Step:=[bQ [.fact 0] [oN 1] (aD 24),
   .loop qG [(qH,[.frm 12,.frm 11])] xC,
   .base ⟨86,[.lit .nl,.fact 2],[oS 3],.ee [] 1⟩,
   bQ [.fact 0] [oN 4] (aD 24),
   .loop qE [(qF,[.frm 12,.frm 11,.frm 0])] xA]
def xE:List Out:=[oS 0]
theorem xF {F:Nat->PH}{N:Nat->Nat}{n:Nat} (hn:n<=1000) (hs:∀j,j<=n->bM N j<=1000000) (hS:∀c i w s,F c i w s->∃p n c,s = .slice p n c) (hF:∀c i,cg (F c i)):dJ (ph (ju F N n)) Try.prog ⟨64,[.fact 0],[oS 5],false⟩:=by
 have hsn:=hs n (Nat.le_refl n)
 exact jq xE [oS 5] xD Try.func64 (by kernel_rfl)
  (lB (aG (F:=(ah (fun c=>Rw 1 (ah (F c)) (N c)))) Try.underlying24 aa rfl)
   (bI (counted n (fun j=>ph (ju F N n ++ xB F N j)) (fun _=>0) (fun j p hp=>bJ (show p<(ju F N n).length from hp)) ⟨fun _=>rfl,fun _=>rfl,trivial⟩ (fun j hj=>by
   have hs1:=hs (j+1) (by omega);have hs0:=hs j (by omega)
   exact ⟨(qH,[.frm 12,.frm 11]),rfl,⟨aa,aa,trivial⟩,(lB (bm aa aa)
   (lB (bc (i:=j) (F:=(ah (fun c=>Rw 1 (ah (F c)) (N c)))) Try.underlying24 (by kernel_rfl) aa aa (by omega) rfl)
   (lB (KU (G:=Rw 1 (ah (F j)) (N j)) (by kernel_rfl) aa (fun _ _ h=>bO h) rfl)
   (lB (aG (F:=(ah (F j))) Try.underlying22 aa rfl)
   (lB (cS aa aa (by rw [bM];omega) rfl (by omega) (by omega))
   (lB (bi (op:=.lss) aa (aS (show decide (((((bM N (j+1))):Nat):Int)<0)=false from decide_eq_false (by omega)) (by simp)))
   (lB (bt aa (by omega) rfl (by omega) (by omega))
   aA)))))))⟩)
   (lB (tlF aa aa)
   aA)
   (fun q hq w v h=>by
    simp only [qG,List.mem_cons,List.not_mem_nil,or_false] at hq
    rcases hq with rfl
    ·exact (fun h=>h) h)) (lB (xy (F:=cC F N 0) aa rfl (by omega))
   (lB (aG (F:=(ah (fun c=>Rw 1 (ah (F c)) (N c)))) Try.underlying24 aa rfl)
   (bI (counted n (fun j=>ph (ju F N n ++ xz F N j)) (fun _=>0) (fun j p hp=>bJ (show p<(ju F N n).length from hp)) ⟨fun _=>rfl,aa,aW,trivial⟩ (fun j hj=>by
   skip
   exact ⟨(qF,[.frm 12,.frm 11,.frm 0]),rfl,⟨aa,aa,aW,trivial⟩,(lB (bm aa aa)
   (lB (bc (i:=j) (F:=(ah (fun c=>Rw 1 (ah (F c)) (N c)))) Try.underlying24 (by kernel_rfl) aa aa (by omega) rfl)
   (lB (KU (G:=Rw 1 (ah (F j)) (N j)) (by kernel_rfl) aa (fun _ _ h=>bO h) rfl)
   (lB (qD (i:=j) Try.underlying22 (by kernel_rfl) hS hF (hs (j+1) (by omega)) aa aa rfl)
   (lB (bt aa (by omega) rfl (by omega) (by omega))
   aA)))))⟩)
   (lB (tlF aa aa)
   aA)
   (fun q hq w v h=>by
    simp only [qE,List.mem_cons,List.not_mem_nil,or_false] at hq
    rcases hq with rfl
    ·exact (fun h=>h) h)) aA)))))
  (aJ [.fact 0 (.one (.s))] ⟨Rw.Is 1 (ah (fun c=>Rw 1 (ah (F c)) (N c))) n,trivial⟩) bg
theorem xG {Φ:PH}{p x a b m:Nat}{J:List Nat}{j:Nat}{A B C:PH} (hp:∀w v,Φ p w v->Rw 1 (ah (two A B a b)) 2 w v) (hx:Φ x=aE 29 C m) (hm:a+b=m) (hab:a+b<=1000000) (hA:∀i w s,A i w s->∃p n c,s = .slice p n c) (hB:∀i w s,B i w s->∃p n c,s = .slice p n c) (uA:∀i,cg (A i)) (uB:∀i,cg (B i)) (hAC:∀i w v,i<a->A i w v->C i w v) (hBC:∀i w v,i<b->B i w v->C (a+i) w v) :
  aj Φ Try.prog ⟨64,[.fact p],[oS x],.ee J j⟩:=by
 subst hm
 exact jr (xF (F:=fun c=>if c=0 then A else B) (N:=fun c=>if c=0 then a else b) (n:=2) (by omega) (fun j hj=>by
  rcases (show j=0∨j=1∨j=2 by omega) with rfl | rfl | rfl <;> simp [bM] <;> omega) (fun c i w s h=>by
  split at h
  ·exact hA _ _ _ h
  ·exact hB _ _ _ h) (fun c i=>by
  split
  ·exact uA _
  ·exact uB _)) ⟨fun _ _ h=>hp _ _ h,trivial⟩ ⟨⟨rfl,⟨rfl,rfl,fun w v h=>by
  rw [hx]
  have h':aE 29 (cC (fun c=>if c=0 then A else B) (fun c=>if c=0 then a else b) 2) (a+b) w v:=by
   have e2:bM (fun c=>if c=0 then a else b) 2=a+b:=by simp [bM]
   rw [<- e2];exact h
  refine h'.to fun i w v hi h=>?_
  have e1:bM (fun c=>if c=0 then a else b) 1=a:=by simp [bM]
  rw [cC,e1] at h
  by_cases hia:i<a
  ·rw [if_pos hia,cC,if_neg (show ¬i<bM (fun c=>if c=0 then a else b) 0 from Nat.not_lt_zero _)] at h
   exact hAC i w v hia h
  ·rw [if_neg hia] at h
   have:=hBC (i-a) w v (by omega) h
   rwa [show a+(i-a)=i by omega] at this⟩,trivial⟩,trivial⟩
theorem xH {Φ:PH}{p x a b m:Nat}{A B C:PH} (hp:∀w v,Φ p w v->Rw 1 (ah (two A B a b)) 2 w v) (hx:Φ x=Rw 1 (ah C) m) (hm:a+b=m) (hab:a+b<=1000000) (hA:∀i w s,A i w s->∃p n c,s = .slice p n c) (hB:∀i w s,B i w s->∃p n c,s = .slice p n c) (uA:∀i,cg (A i)) (uB:∀i,cg (B i)) (hAC:∀i w v,i<a->A i w v->C i w v) (hBC:∀i w v,i<b->B i w v->C (a+i) w v) :
  aj Φ Try.prog ⟨64,[.fact p],[oS x],false⟩:=
 aT (dJ.call (md:=.ee [] 0) (xG (Φ:=ph [Rw 1 (ah (two A B a b)) 2,aE 29 C m]) (p:=0) (x:=1) (J:=[]) (j:=0) aa rfl hm hab hA hB uA uB hAC hBC)) ⟨hp,trivial⟩ ⟨⟨rfl,⟨rfl,rfl,fun w v h=>by
  rw [hx]
  exact aE.rw (e:=29) h⟩,trivial⟩,trivial⟩
end Go.Proofs.Ytomamliepbhegaa.Sym
