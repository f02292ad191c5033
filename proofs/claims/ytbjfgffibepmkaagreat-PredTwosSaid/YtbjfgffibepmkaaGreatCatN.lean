/- Rows whose elements are -/
import Derived.Test.YtbjfgffibepmkaaGreatRowP
import Derived.Test.YtbjfgffibepmkaaGreatCatB
set_option maxRecDepth 100000
namespace Go.Proofs.YtbjfgffibepmkaaGreat.Sym
open Go.Proofs.Tryz
open Go.RowKit
variable {A B F F' G Φ:PH}{a b i j m n p q r sz x:Nat}{T e t:TypeId}{w:World}{J:List Nat}{v:Value}{N:Nat->Nat}
def dm (F:WP):Prop:=∀(X Y:Nat->Prop) (w:World) (s:Value),(∀w1,Off X w w1->F w1 s)->(∀w1,Off Y w w1->F w1 s)->∀w1,Off (fun k=>X k∨Y k) w w1->F w1 s
def aw (G:PH) (i:Nat) (w:World) (u:Value):Prop:=∃s,u = .agg #[s]∧G i w s
def aL (e:TypeId) (F:PH) (n:Nat) (w:World) (v:Value):Prop:=aC 1 e (fun i w u=>∃s,u = .agg #[s]∧∀w2,Off (fun k=>blk v=some k) w w2->F i w2 s) n w v
section
variable {X:Nat->Prop}{s:Value}{z0:Value}
theorem jE (hc:∀i w (l:List Value),F i w (.agg l.toArray)->l.length=sz->∃u,l[0]?=some u∧u≠z0∧∀k n,u≠.int k n) (A:∀w1,Off X w w1->Rw sz F n w1 s) (hn:0<n:=by omega):∃g,blk s=some g∧¬X g∧g<w.heap.size:=by
 obtain ⟨p,c,rfl,hc',he⟩:=A w (Off.refl _ _)
 obtain ⟨b,off,rfl,l,h1,h2,h3⟩:=he 0 hn
 obtain ⟨u,hu,hne,hni⟩:=hc _ _ _ h3 h1
 have hcl:=h2 0 _ hu
 refine ⟨b,rfl,fun hX=>?_,World.block_lt_of_cell? _ _ hcl⟩
 have hg:w.grownBy (w.setCells b (off+0*sz+0) [z0]) (some b):=iw b _ _ _
 have hgr:w.grownBy (w.setCell ⟨b,off+0*sz+0,none⟩ z0) (some b):=hg
 have hoff:Off X w (w.setCell ⟨b,off+0*sz+0,none⟩ z0):=by
  refine ⟨⟨hgr.size,fun a k n _ ha=>?_⟩,fun k hk hn=>hgr.block k hk fun e=>?_⟩
  ·rw [World.cell?_setCell_other _ _ _ _ (fun e=>by rw [<- e,hcl] at ha;exact hni _ _ (Option.some.inj ha))]
   exact ha
  ·obtain rfl:k=b:=Option.some.inj e
   exact hn hX
 obtain ⟨p',c',e,_,he'⟩:=A _ hoff
 obtain ⟨b',off',e2,l',h1',h2',h3'⟩:=he' 0 hn
 simp only [Value.slice.injEq] at e
 obtain ⟨e1,-,-⟩:=e
 rw [e2] at e1
 simp only [Option.some.injEq,Addr.mk.injEq] at e1
 obtain ⟨rfl,rfl,_⟩:=e1
 obtain ⟨u',hu',hne',_⟩:=hc _ _ _ h3' h1'
 have hc2:=h2' 0 _ hu'
 rw [World.cell?_setCell_same _ _ _ hcl] at hc2
 exact hne' (Option.some.inj hc2).symm
theorem xi (hK:∀i w w1 v,Kp w w1->F i w v->F i w1 v) (hc:∀i w (l:List Value),F i w (.agg l.toArray)->l.length=sz->∃u,l[0]?=some u∧u≠z0∧∀k n,u≠.int k n):dm (Rw sz F n):=fun X Y w s hX hY w1 hw=>by
 refine Rw.own' (hX w (Off.refl _ _)) hK hw.1 fun hn g hg=>?_
 obtain ⟨g1,e1,x1,l1⟩:=jE (hn:=hn) hc hX
 obtain ⟨g2,e2,x2,l2⟩:=jE (hn:=hn) hc hY
 rw [hg] at e1 e2
 obtain rfl:=Option.some.inj e1
 obtain rfl:=Option.some.inj e2
 exact hw.2 g l1 fun h=>h.elim x1 x2
theorem pH (hS:∀i w s,G i w s->∃p n c,s = .slice p n c) (i:Nat) (w:World) (l:List Value) (h:aw G i w (.agg l.toArray)) (_:l.length=1):∃u,l[0]?=some u∧u≠.bool true∧∀k n,u≠.int k n:=by
 obtain ⟨s,e,h⟩:=h
 obtain ⟨p,m,c,rfl⟩:=hS _ _ _ h
 obtain rfl:l = [.slice p m c]:=by simpa using e
 exact ⟨_,rfl,fun h=>by (cases h),fun _ _ h=>by cases h⟩
theorem xj (hS:∀i w s,G i w s->∃p n c,s = .slice p n c) (hG:∀i,dm (G i)):dm (Rw 1 (aw G) n):=fun X Y w s hX hY w1 hw=>by
 have sub:∀{Z:Nat->Prop},(∀w1,Off Z w w1->Rw 1 (aw G) n w1 s)->∀i,i<n->∀(b off:Nat) (u:Value),s = .slice (some ⟨b,off,none⟩) n (match s with | .slice _ _ c=>c | _=>0)->w.cell? ⟨b,off+i*1+0,none⟩=some u->∀w2,Off Z w w2->G i w2 u:=fun {Z} hZ i hi b off u hs hu w2 hw2=>by
  obtain ⟨g,e,x,l⟩:=jE (pH hS) hZ
  obtain ⟨p,c,es,_,he⟩:=hZ w2 hw2
  obtain ⟨b',off',ep,l',h1,h2,s',e',h3⟩:=he i hi
  rw [hs] at es e
  simp only [Value.slice.injEq] at es
  rw [ep] at es
  simp only [Option.some.injEq,Addr.mk.injEq,and_true] at es
  obtain ⟨⟨rfl,rfl⟩,-⟩:=es
  obtain rfl:=Option.some.inj e
  obtain rfl:l' = [s']:=by simpa using e'
  have hc:=h2 0 s' rfl
  rw [World.cell?_of_block (hw2.2 b l x),hu] at hc
  obtain rfl:=Option.some.inj hc
  exact h3
 obtain ⟨p,c,rfl,hc,he⟩:=hX w (Off.refl _ _)
 refine ⟨p,c,rfl,hc,fun i hi=>?_⟩
 obtain ⟨b,off,rfl,l,h1,h2,s,e,h3⟩:=he i hi
 obtain rfl:l = [s]:=by simpa using e
 obtain ⟨g1,e1,x1,l1⟩:=jE (pH hS) hX
 obtain ⟨g2,e2,x2,l2⟩:=jE (pH hS) hY
 obtain rfl:=Option.some.inj e1
 obtain rfl:=Option.some.inj e2
 refine ⟨b,off,rfl,[s],rfl,fun j u hj=>?_,s,rfl,hG i X Y w s (sub hX i hi b off s rfl (h2 0 s rfl)) (sub hY i hi b off s rfl (h2 0 s rfl)) w1 hw⟩
 rw [World.cell?_of_block (hw.2 b l1 fun h=>h.elim x1 x2)]
 exact h2 j u hj
end
section
theorem aL.rw (h:aL e F n w v):Rw 1 (aw F) n w v:=Rw.to (sz:=1) (aC.rw h) fun _ _ _ _ ⟨s,e,h⟩=>⟨s,e,h _ (Off.refl _ _)⟩
theorem aL.nil (e:TypeId) (F:PH) (w:World):aL e F 0 w (.slice none 0 0):=aC.nil _ _ _ _
theorem aL.is (h:aL e F n w v):(bW.one .s).is v:=by
 obtain ⟨p,c,rfl,_⟩:=h.rw
 exact ⟨⟨_,_,_,rfl⟩,fun _ h=>by cases h⟩
end
theorem fA  (hU:prog.underlying t=some (.slice e)) (hS:∀i w s,F i w s->∃p n c,s = .slice p n c) (hF:∀i,dm (F i))
  (hp:∀w v,Φ p w v->aL e F n w v) (hq:∀w v,Φ q w v->aw F n w v) (hx:Φ x=aL e F (n+1)) (hI:(prog.info? e).map (fun i=>(i.zero,i.size,i.bytes))=some (some (.slice none 0 0),1,24):=by kernel_rfl) (hn:n<=1000000:=by omega) :
  aj Φ prog ⟨0,[.fact p,.row 1 [q]],[oS x],.loose [] j 0 (bO t t)⟩:=fun X L w ac o ys hX hL hLX hm ha hb hbs=>by
 obtain ⟨i0,hi,hz0,hz1,hz2⟩:=info_parts hI
 obtain ⟨y,u,hys⟩:∃y u,ys.map ac.eval = [y,u]:=by
  match ys.map ac.eval,ha with
  | [y,u],_=>exact ⟨y,u,rfl⟩
 rw [show List.map ac.eval ys = [y,u] from hys] at ha hbs
 obtain ⟨a,b,ho,rfl,ea,eb⟩:=lN hm hys
 obtain ⟨h1,⟨g,hu,⟨l,hl,hcells,hl3⟩,-⟩,-⟩:=ha
 obtain ⟨-,⟨g2,hu2,⟨l2,hl2,Gz,hl4⟩,-⟩,-⟩:=hbs
 have hA:∀w1,Off X w w1->aL e F n w1 y:=fun w1 hw=>hp _ _ (h1 w1 hw)
 obtain ⟨rows,r1,r2,r3,r4⟩:=hA w (Off.refl _ _)
 have hu':u = .slice (some ⟨g,0,none⟩) 1 1:=hu
 have su:u = .slice (some ⟨g2,0,none⟩) 1 1:=hu2
 rw [hu'] at su
 simp only [Value.slice.injEq,Option.some.injEq,Addr.mk.injEq,and_true] at su
 obtain rfl:=su
 obtain ⟨s,rfl⟩:∃s,l = [s]:=by
  match l,hl with
  | [s],_=>exact ⟨s,rfl⟩
 obtain ⟨s2,rfl⟩:∃s,l2 = [s]:=by
  match l2,hl2 with
  | [s],_=>exact ⟨s,rfl⟩
 have hss:s=s2:=by
  have h2:=hcells 0 s rfl
  have h3:=Gz 0 s2 rfl
  rw [h2] at h3
  exact Option.some.inj h3
 subst hss
 have hC:∀w1,Off (fun k=>X k∨L k) w w1->F n w1 s:=fun w1 hw=>by
  obtain ⟨s',e',h'⟩:=hq _ _ (hl4 w1 hw)
  obtain rfl:s=s':=by simpa using e'
  exact h'
 have hsl:∃p n c,s = .slice p n c:=hS _ _ _ (hC w (Off.refl _ _))
 have hone:∀v,v ∈ [s]->v.oneCell'=true∧cL v:=fun v hv=>by
  obtain rfl:=List.mem_singleton.1 hv
  obtain ⟨p,n,c,rfl⟩:=hsl
  exact ⟨rfl,fun _ _ _ h=>by cases h⟩
 obtain ⟨v',w',hrn,ho',hg,hbl⟩:=xk t o.type hU hi hz0 hz1 hz2 rfl (by omega) (by omega) (fun x hx=>by
  have:x = .slice none 0 0:=by simpa [Value.cells] using hx
  subst this
  exact fun _ _ _ h=>by cases h) r3 ⟨g,0,none⟩ 1 [s] hl (fun k v hk=>by rw [Addr.add_lit];exact hcells k v hk) (fun v hv=>(hone v hv).1) (fun v hv=>(hone v hv).2) hn
 have hkp:=r3.kp hg
 have hLy:∀m,y.ownBlock=some m->L m:=fun m hm'=>hb a m rfl (by rw [ea,eM];exact hm')
 have hv':∀m,v'.ownBlock=some m->L m∨m=w.heap.size:=fun m hm'=>by
  rcases hbl with h | h
  ·exact .inl (hLy m (by rw [<- h];exact hm'))
  ·rw [hm'] at h;exact .inr (Option.some.inj h)
 have hrun:=jC (o:=o) (P:=prog) ho ea (by rw [eb,hu']) hrn
 refine ⟨v',w',y.ownBlock,hrun,hg,hLy,hkp,fun m k v hm' h4 h5=>?_,fun m hm'=>?_,?_⟩
 ·have hbk:=hg.block m (World.block_lt_of_cell? _ _ h4) (fun e'=>hm' m e'.symm rfl)
  refine ⟨by rw [World.cell?_of_block hbk];exact h4,?_⟩
  simp only [World.frozen?,hbk] at h5 ⊢
  exact h5
 ·rw [eM] at hm'
  refine ⟨ho'.lt m hm',?_⟩
  rcases hv' m hm' with h | h
  ·exact .inl h
  ·exact .inr (by omega)
 ·obtain ⟨p1,n1,c1,rfl⟩:∃p n c,v' = .slice p n c:=by
   rcases ho'.1.2 with ⟨h,-⟩ | ⟨_,_,_,h,-⟩ <;> exact ⟨_,_,_,h⟩
  refine ⟨⟨⟨⟨_,_,_,rfl⟩,fun _ h=>by cases h⟩,fun s' hs w1 hw=>?_⟩,trivial⟩
  simp only [List.mem_singleton] at hs
  subst hs
  show Φ x w1 _
  rw [hx]
  have iy:∀w2,Off (fun k=>blk (.slice p1 n1 c1)=some k) w1 w2->Off (fun k=>X k∨blk y=some k) w w2:=fun w2 hw2=>by
   refine ⟨hkp.trans (hw.1.trans hw2.1),fun m hm hno=>?_⟩
   have e1:w'.heap[m]?=w.heap[m]?:=hg.block m hm fun e=>hno (.inr (by rw [eM];exact e.symm▸rfl))
   have e2:w1.heap[m]?=w'.heap[m]?:=hw.2 m (Nat.lt_of_lt_of_le hm hg.size) fun h=>hno (.inl h)
   have e3:w2.heap[m]?=w1.heap[m]?:=hw2.2 m (Nat.lt_of_lt_of_le (Nat.lt_of_lt_of_le hm hg.size) hw.1.1) fun h=>by
    rw [eM] at h
    rcases hbl with h' | h'
    ·exact hno (.inr (by rw [eM,<- h'];exact h))
    ·rw [h'] at h;have:=Option.some.inj h;omega
   rw [e3,e2,e1]
  refine ⟨rows ++ [[s]],by simp [r1],fun r hr=>?_,?_,fun i r hr=>?_⟩
  ·rcases List.mem_append.1 hr with hr | hr
   ·exact r2 r hr
   ·rw [List.mem_singleton.1 hr];rfl
  ·rw [List.flatten_append,List.flatten_singleton]
   refine ho'.keep fun m hm'=>hw.2 m (ho'.lt m hm') fun hx'=>?_
   rcases hv' m hm' with h | h
   ·exact hLX m h hx'
   ·have:=hX m hx';omega
  ·rw [List.getElem?_append] at hr
   split at hr
   ·obtain ⟨s0,e0,hd⟩:=r4 i r hr
    refine ⟨s0,e0,fun w2 hw2=>hF i X (fun k=>blk y=some k) w s0 (fun w3 hw3=>?_) hd w2 (iy w2 hw2)⟩
    have hi:i<n:=by have:=(List.getElem?_eq_some_iff.1 hr).1;omega
    obtain rfl:r = [s0]:=by simpa using e0
    have h0:aC 1 e (fun i _ v=>∃r,rows[i]?=some r∧v = .agg r.toArray) n w y:=⟨rows,r1,r2,r3,fun i r hr=>⟨r,hr,rfl⟩⟩
    obtain ⟨p,c,rfl,-,he⟩:=aC.rw h0
    obtain ⟨b,off,rfl,l,g1,g2,r',g3,g4⟩:=he i hi
    rw [hr] at g3
    obtain rfl:=Option.some.inj g3
    obtain rfl:l = [s0]:=by simpa using g4
    obtain ⟨p',c',e5,-,he'⟩:=aC.rw (hA w3 hw3)
    simp only [Value.slice.injEq,true_and] at e5
    obtain ⟨rfl,rfl⟩:=e5
    obtain ⟨b',off',e6,l',k1,k2,s3,k3,k4⟩:=he' i hi
    simp only [Option.some.injEq,Addr.mk.injEq,and_true] at e6
    obtain ⟨rfl,rfl⟩:=e6
    obtain rfl:l' = [s3]:=by simpa using k3
    have hc:=g2 0 s0 rfl
    have hc':=k2 0 s3 rfl
    rw [World.cell?_of_block (hw3.2 b (World.block_lt_of_cell? _ _ hc) (hLX b (hLy b rfl))),hc] at hc'
    obtain rfl:=Option.some.inj hc'
    exact k4 w3 (Off.refl _ _)
   ·have hi':i=n:=by
     have:=(List.getElem?_eq_some_iff.1 hr).1
     simp at this
     omega
    subst hi'
    rw [r1,Nat.sub_self] at hr
    simp at hr
    subst hr
    refine ⟨s,rfl,fun w2 hw2=>hC w2 ?_⟩
    exact (iy w2 hw2).wide fun m h=>h.imp id fun h=>hLy m (by rw [<- eM];exact h)
theorem GA {w2:World}{Z:Nat->Prop}{p:Option Addr}{c off:Nat}{u:Value} (hS:∀i w s,G i w s->∃p n c,s = .slice p n c) (hZ:∀w1,Off Z w w1->Rw 1 (aw G) n w1 (.slice p n c)) (hi:i<n) (hb:p=some ⟨b,off,none⟩) (hu:w.cell? ⟨b,off+i*1+0,none⟩=some u) (hw2:Off Z w w2):G i w2 u:=by
 obtain ⟨g,e,x,l⟩:=jE (pH hS) hZ
 obtain ⟨p',c',es,_,he⟩:=hZ w2 hw2
 obtain ⟨b',off',ep,l',h1,h2,s',e',h3⟩:=he i hi
 subst hb
 simp only [Value.slice.injEq,true_and] at es
 rw [ep] at es
 simp only [Option.some.injEq,Addr.mk.injEq,and_true] at es
 obtain ⟨⟨rfl,rfl⟩,-⟩:=es
 obtain rfl:=Option.some.inj e
 obtain rfl:l' = [s']:=by simpa using e'
 have hc:=h2 0 s' rfl
 rw [World.cell?_of_block (hw2.2 b l x),hu] at hc
 obtain rfl:=Option.some.inj hc
 exact h3
section
variable {w':World}{y:Value}{X:Nat->Prop}
theorem aL.intro {ss:List Value} (h1:ss.length=n) (h2:dR 1 e w y n ss) (h3:∀i s,ss[i]?=some s->∀w2,Off (fun k=>blk y=some k) w w2->F i w2 s):aL e F n w y:=by
 have hfl:(ss.map fun s=>[s]).flatten=ss:=by
  clear h1 h2 h3
  induction ss with
  | nil=>rfl
  | cons s ss ih=>rw [List.map_cons,List.flatten_cons,ih];rfl
 refine ⟨ss.map fun s=>[s],by simp [h1],fun r hr=>?_,hfl.symm▸h2,fun i r hr=>?_⟩
 ·obtain ⟨s,-,rfl⟩:=List.mem_map.1 hr;rfl
 ·rw [List.getElem?_map] at hr
  obtain ⟨s,hs,rfl⟩:=Option.map_eq_some_iff.1 hr
  exact ⟨s,rfl,h3 i s hs⟩
theorem aL.xm (h:aC 1 e G 0 w v):aL e F 0 w v:=by
 obtain ⟨rows,r1,r2,r3,-⟩:=h
 obtain rfl:rows = []:=List.eq_nil_of_length_eq_zero r1
 exact ⟨[],rfl,r2,r3,fun i r hr=>by simp at hr⟩
theorem aL.tell (hF:∀i,dm (F i)) (A:∀w1,Off X w w1->aL e F n w1 y) (hb:∀g,blk y=some g->¬X g) :
  ∃ss:List Value,ss.length=n∧dR 1 e w y n ss∧∀i s,ss[i]?=some s->∀w2,Off (fun k=>X k∨blk y=some k) w w2->F i w2 s:=by
 obtain ⟨rows,r1,r2,r3,r4⟩:=A w (Off.refl _ _)
 refine ⟨rows.flatten,by rw [jc r2,r1,Nat.mul_one],r3,fun i s hs w2 hw2=>?_⟩
 obtain ⟨i',k',r,e1,hr,hk'⟩:=pE (by omega) r2 hs
 have hk0:k'=0:=by
  have h1:=(List.getElem?_eq_some_iff.1 hk').1
  rw [r2 r (List.mem_of_getElem? hr)] at h1
  omega
 subst hk0
 obtain rfl:i'=i:=by omega
 obtain ⟨s0,e0,hd⟩:=r4 i' r hr
 obtain rfl:r = [s0]:=by simpa using e0
 obtain rfl:s0=s:=by simpa using hk'
 refine hF i' X (fun k=>blk y=some k) w s0 (fun w3 hw3=>?_) hd w2 hw2
 have hi:i'<n:=by have:=(List.getElem?_eq_some_iff.1 hr).1;omega
 have h0:aC 1 e (fun i _ v=>∃r,rows[i]?=some r∧v = .agg r.toArray) n w y:=⟨rows,r1,r2,r3,fun i r hr=>⟨r,hr,rfl⟩⟩
 obtain ⟨p,c,rfl,-,he⟩:=aC.rw h0
 obtain ⟨b,off,rfl,l,g1,g2,r',g3,g4⟩:=he i' hi
 rw [hr] at g3
 obtain rfl:=Option.some.inj g3
 obtain rfl:l = [s0]:=by simpa using g4
 obtain ⟨p',c',e5,-,he'⟩:=aC.rw (A w3 hw3)
 simp only [Value.slice.injEq,true_and] at e5
 obtain ⟨rfl,rfl⟩:=e5
 obtain ⟨b',off',e6,l',k1,k2,s3,k3,k4⟩:=he' i' hi
 simp only [Option.some.injEq,Addr.mk.injEq,and_true] at e6
 obtain ⟨rfl,rfl⟩:=e6
 obtain rfl:l' = [s3]:=by simpa using k3
 have hc:=g2 0 s0 rfl
 have hc':=k2 0 s3 rfl
 rw [World.cell?_of_block (hw3.2 b (World.block_lt_of_cell? _ _ hc) (hb b rfl)),hc] at hc'
 obtain rfl:=Option.some.inj hc'
 exact k4 w3 (Off.refl _ _)
end
theorem GB  (hU:prog.underlying t=some (.slice e)) (hI:(prog.info? e).map (fun i=>(i.zero,i.size,i.bytes))=some (some (.slice none 0 0),1,24)) (hS:∀i w s,G i w s->∃p n c,s = .slice p n c) (hF:∀i,dm (F i))
  (hp:∀w v,Φ p w v->aL e F n w v) (hq:∀w v,Φ q w v->Rw 1 (aw G) m w v) (h1F:∀i w v,i<n->F i w v->F' i w v) (h1G:∀i w v,i<m->G i w v->F' (n+i) w v) (hn:n+m<=1000000) (hx:Φ x=aL e F' (n+m)) :
  aj Φ prog ⟨0,[.fact p,.fact q],[oS x],.loose [] j 0 (bO t t)⟩:=fun X L w ac o ys hX hL hLX hm ha hb hbs=>by
 obtain ⟨i0,hi,hz0,hz1,hz2⟩:=info_parts hI
 obtain ⟨y,u,hys⟩:∃y u,ys.map ac.eval = [y,u]:=by
  match ys.map ac.eval,ha with
  | [y,u],_=>exact ⟨y,u,rfl⟩
 rw [show List.map ac.eval ys = [y,u] from hys] at ha hbs
 obtain ⟨a,b,ho,rfl,ea,eb⟩:=lN hm hys
 obtain ⟨h1,h2,-⟩:=ha
 obtain ⟨-,h3,-⟩:=hbs
 have hLy:∀m,y.ownBlock=some m->L m:=fun m hm'=>hb a m rfl (by rw [ea,eM];exact hm')
 obtain ⟨ss,s1,s2,s3⟩:=aL.tell (y:=y) hF (fun w1 hw=>hp _ _ (h1 w1 hw)) fun g hg=>hLX g (hLy g (by rw [<- eM];exact hg))
 have hA:∀w1,Off (fun k=>X k∨L k) w w1->Rw 1 (aw G) m w1 u:=fun w1 hw=>hq _ _ (h3 w1 hw)
 obtain ⟨p0,c0,hu,hc0,hel⟩:=hA w (Off.refl _ _)
 rcases Nat.eq_zero_or_pos m with hm0 | hm0
 ·subst hm0
  obtain ⟨py,cy,hyv,hcy,-⟩:=(hp _ _ (h1 w (Off.refl _ _))).rw
  have hr:=si (P:=prog) (w:=w) t o.type e i0 hU hi py p0 n cy c0 hcy
  have hrun:=jC (o:=o) (P:=prog) ho (by rw [ea,hyv]) (by rw [eb,hu]) hr
  refine ⟨.slice py n cy,w,none,hrun,bt w none,(fun _ h=>by cases h),Kp.refl _,(fun m k v _ h4 h5=>⟨h4,h5⟩),fun m hm'=>?_,cP ⟨⟨_,_,_,rfl⟩,fun _ h=>by cases h⟩ hx fun w1 hw=>?_⟩
  ·rw [eM,<- hyv] at hm'
   exact ⟨hL m (hLy m hm'),.inl (hLy m hm')⟩
  ·rw [<- hyv]
   refine aL.intro (ss:=ss) (by omega) (by simpa using s2.keep fun m hm'=>hw.2 m (s2.lt m hm') fun hx'=>hLX m (hLy m hm') hx') fun i s hs w2 hw2=>?_
   refine h1F i w2 s (by have:=(List.getElem?_eq_some_iff.1 hs).1;omega) (s3 i s hs w2 ((hw.wide fun _ h=>.inl h).trans hw2 fun m _ h=>.inr h))
 ·obtain ⟨b0,ja,hp0,-⟩:=hel 0 hm0
  subst hp0
  obtain ⟨gh,t1,t2⟩:=sk (m:=m) (Q:=fun i l=>∃s,l = [s]∧w.cell? ⟨b0,ja+i*1+0,none⟩=some s∧G i w s) fun i hi=>by
   obtain ⟨b',off',hbo,l,h3,h4,s,h5,h6⟩:=hel i hi
   simp only [Option.some.injEq,Addr.mk.injEq,and_true] at hbo
   obtain ⟨rfl,rfl⟩:=hbo
   obtain rfl:l = [s]:=by simpa using h5
   exact ⟨[s],s,rfl,h4 0 s rfl,h6⟩
  have jb:∀r,r ∈ gh->r.length=1:=fun r hr=>by
   obtain ⟨i,hi,rfl⟩:=List.getElem_of_mem hr
   obtain ⟨s,e1,-⟩:=t2 i _ (List.getElem?_eq_getElem hi)
   rw [e1];rfl
  have hget:∀(k:Nat) v,gh.flatten[k]?=some v->k<m∧w.cell? ⟨b0,ja+k*1+0,none⟩=some v∧G k w v:=fun k v hk=>by
   obtain ⟨i,k',r,rfl,hr,hk'⟩:=pE (by omega) jb hk
   obtain ⟨s,rfl,e2,e3⟩:=t2 i r hr
   have:k'=0:=by have:=(List.getElem?_eq_some_iff.1 hk').1;simp at this;exact this
   subst this
   obtain rfl:s=v:=by simpa using hk'
   rw [Nat.mul_one,Nat.add_zero]
   exact ⟨by have:=(List.getElem?_eq_some_iff.1 hr).1;omega,e2,e3⟩
  have hcells:∀(k:Nat) v,gh.flatten[k]?=some v->w.cell? (Addr.add ⟨b0,ja,none⟩ k)=some v:=fun k v hk=>by
   have:=(hget k v hk).2.1
   rw [Addr.add_lit]
   rwa [Nat.mul_one,Nat.add_zero] at this
  have hcs:∀v,v ∈ gh.flatten->v.oneCell'=true∧cL v:=fun v hv=>by
   obtain ⟨k,hk,rfl⟩:=List.getElem_of_mem hv
   obtain ⟨p,n,c,e4⟩:=hS _ _ _ (hget k _ (List.getElem?_eq_getElem hk)).2.2
   rw [e4]
   exact ⟨rfl,fun _ _ _ h=>by cases h⟩
  obtain ⟨v',w',hr,ho',hg,hbl⟩:=xc t o.type hU hi hz0 hz1 hz2 rfl (by omega) (by omega) (fun x hx=>by
   have:x = .slice none 0 0:=by simpa [Value.cells] using hx
   subst this
   exact fun _ _ _ h=>by cases h) s2 ⟨b0,ja,none⟩ m c0 gh.flatten (by rw [jc jb,t1]) hm0 hcells (fun v hv=>(hcs v hv).1) (fun v hv=>(hcs v hv).2) hn
  have hkp:=s2.kp hg
  have hv':∀m,v'.ownBlock=some m->L m∨m=w.heap.size:=fun m hm'=>by
   rcases hbl with h | h
   ·exact .inl (hLy m (by rw [<- h];exact hm'))
   ·rw [hm'] at h;exact .inr (Option.some.inj h)
  have hrun:=jC (o:=o) (P:=prog) ho ea (by rw [eb,hu]) hr
  refine ⟨v',w',y.ownBlock,hrun,hg,hLy,hkp,fun m k v hm' h4 h5=>?_,fun m hm'=>?_,?_⟩
  ·have hbk:=hg.block m (World.block_lt_of_cell? _ _ h4) (fun e'=>hm' m e'.symm rfl)
   refine ⟨by rw [World.cell?_of_block hbk];exact h4,?_⟩
   simp only [World.frozen?,hbk] at h5 ⊢
   exact h5
  ·rw [eM] at hm'
   refine ⟨ho'.lt m hm',?_⟩
   rcases hv' m hm' with h | h
   ·exact .inl h
   ·exact .inr (by omega)
  ·obtain ⟨p1,n1,c1,rfl⟩:∃p n c,v' = .slice p n c:=by
    rcases ho'.1.2 with ⟨h,-⟩ | ⟨_,_,_,h,-⟩ <;> exact ⟨_,_,_,h⟩
   refine cP ⟨⟨_,_,_,rfl⟩,fun _ h=>by cases h⟩ hx fun w1 hw=>?_
   have iy:∀w2,Off (fun k=>blk (.slice p1 n1 c1)=some k) w1 w2->Off (fun k=>X k∨blk y=some k) w w2:=fun w2 hw2=>by
    refine ⟨hkp.trans (hw.1.trans hw2.1),fun m hm hno=>?_⟩
    have e1:w'.heap[m]?=w.heap[m]?:=hg.block m hm fun e=>hno (.inr (by rw [eM];exact e.symm▸rfl))
    have e2:w1.heap[m]?=w'.heap[m]?:=hw.2 m (Nat.lt_of_lt_of_le hm hg.size) fun h=>hno (.inl h)
    have e3:w2.heap[m]?=w1.heap[m]?:=hw2.2 m (Nat.lt_of_lt_of_le (Nat.lt_of_lt_of_le hm hg.size) hw.1.1) fun h=>by
     rw [eM] at h
     rcases hbl with h' | h'
     ·exact hno (.inr (by rw [eM,<- h'];exact h))
     ·rw [h'] at h;have:=Option.some.inj h;omega
    rw [e3,e2,e1]
   have hl2:gh.flatten.length=m:=by rw [jc jb,t1,Nat.mul_one]
   refine aL.intro (ss:=ss ++ gh.flatten) (by rw [List.length_append,s1,hl2]) (ho'.keep fun m hm'=>hw.2 m (ho'.lt m hm') fun hx'=>?_) fun i s hs w2 hw2=>?_
   ·rcases hv' m hm' with h | h
    ·exact hLX m h hx'
    ·have:=hX m hx';omega
   ·rw [List.getElem?_append] at hs
    split at hs
    ·rename_i hlt
     exact h1F i w2 s (by omega) (s3 i s hs w2 (iy w2 hw2))
    ·rename_i hge
     obtain ⟨hk,hc,-⟩:=hget _ s hs
     have:=h1G (i-ss.length) w2 s hk (GA hS (fun w1 hw=>hu▸hA w1 hw) hk rfl hc ((iy w2 hw2).wide fun m h=>h.imp id fun h=>hLy m (by rw [<- eM];exact h)))
     rw [s1,show n+(i-n)=i by omega] at this
     exact this
theorem xn {y:Nat}{G:WP} (xS xI:Operand) (hS:∀w s,G w s->∃p n c,s = .slice p n c) (hF:∀i,dm (F i)) (hp:∀w v,Φ p w v->aL e F n w v) (hq:∀w v,Φ q w v->v = .int .i64 (i:Int)) (hr:∀w v,Φ r w v->G w v) (hy:Φ y=At 1)
  (hF':∀k w v,k≠i->F k w v->F' k w v) (hG':∀w v,G w v->F' i w v) (hx:Φ x=aL e F' n) (hz:dg prog t=some 1:=by kernel_rfl) (hi:i<n:=by omega) :
  aj Φ prog ⟨0,[.fact p,.fact q,.any,.fact r],[oS x],.lP [] j 0 y (fB t xS xI)⟩:=fun X L w ac o xs hX hL hLX hm ha hjt hb hbs=>by
 unfold fB at hm
 split at hm
 case h_2=>cases hm
 rename_i t' a b ho
 split at hm
 case isFalse=>cases hm
 rename_i ht
 subst ht
 simp only [Option.some.injEq] at hm
 subst hm
 have hi2:=hq _ _ (ha.2.1 w (Off.refl _ _))
 have hval:∀w1,Off (fun k=>X k∨L k) w w1->G w1 (ac.eval b):=fun w1 hw=>hr _ _ (hbs.2.2.2.1 w1 hw)
 obtain ⟨pv,nv,cv,hbv⟩:=hS _ _ (hval w (Off.refl _ _))
 have hAt:=hjt w (Off.refl _ _)
 rw [hy] at hAt
 obtain ⟨g,off,n1,c,k,hAt⟩:=hAt
 simp only [List.dropLast_cons_cons,List.dropLast_singleton,List.map_cons,List.map_nil,Value.agg.injEq,Array.mk.injEq,List.cons.injEq,and_true] at hAt
 obtain ⟨h1,h2,h3⟩:=hAt
 have hk:k=i:=by
  rw [hi2] at h2
  simp only [Value.int.injEq,true_and] at h2
  omega
 subst hk
 have hLg:L g:=hb xS g rfl (by rw [h1];rfl)
 obtain ⟨ss,s1,s2,s3⟩:=aL.tell (y:=ac.eval xS) hF (fun w1 hw=>hp _ _ (ha.1 w1 hw)) fun g' hg'=>by
  rw [h1] at hg'
  simp only [blk,Option.some.injEq] at hg'
  subst hg';exact hLX _ hLg
 rw [h1] at s2 s3
 have hoff:off=0∧n1=n:=by
  rcases s2.1.2 with ⟨h',_⟩ | ⟨g',cap',cur',h',_⟩
  ·simp at h'
  ·simp only [Value.slice.injEq,Option.some.injEq,Addr.mk.injEq,and_true] at h'
   exact ⟨h'.1.2,h'.2.1⟩
 obtain ⟨rfl,rfl⟩:=hoff
 rw [Nat.zero_add,Nat.mul_one] at h3
 have hcell:∀m,m < [Value.slice pv nv cv].length->(w.cell? ⟨g,k+m,none⟩).isSome=true:=fun m hm=>by
  have hm0:m=0:=by simpa using hm
  subst hm0
  rw [Nat.add_zero,s2.1.cellAt _ (by omega),List.getElem?_eq_getElem (by rw [s2.1.1];omega)];rfl
 have hrun:=run_storeCells_cells (P:=prog) g k [Value.slice pv nv cv] 0 w (fun m hm=>by rw [Nat.add_zero];exact hcell m hm) (fun m _=>s2.1.frozenAt _) (fun v hv=>by
  obtain rfl:=List.mem_singleton.1 hv;rfl)
 rw [Nat.add_zero] at hrun
 have hst:=dR.storeCells [Value.slice pv nv cv] k ss w s2 (fun v hv=>by
  obtain rfl:=List.mem_singleton.1 hv
  exact fun _ _ _ h=>by cases h)
 have hgr:w.grownBy (w.setCells g k [Value.slice pv nv cv]) (some g):=iw g _ _ _
 have hkp:Kp w (w.setCells g k [Value.slice pv nv cv]):=s2.kp hgr
 refine ⟨w.setCells g k [Value.slice pv nv cv],some g,?_,hgr,fun m hm=>Option.some.inj hm▸hLg,hkp,fun m q v hm h4 h5=>?_,fun x0 hx0=>?_⟩
 ·have e0:Instr.sureAddr (.pointer (some ⟨g,k,none⟩))=pure ⟨g,k,none⟩:=rfl
  unfold execOp
  simp only [ho,h3,hbv]
  simp only [Instr.storeAt,e0,storeVar,Value.cells,Sem.run_bind,Sem.run_pure,Result.andThen_ok,run_sizeOf hz]
  simp [hrun]
 ·have hbk:=hgr.block m (World.block_lt_of_cell? _ _ h4) (fun e'=>hm m e'.symm rfl)
  refine ⟨by rw [World.cell?_of_block hbk];exact h4,?_⟩
  simp only [World.frozen?,hbk] at h5 ⊢
  exact h5
 ·simp only [List.dropLast_cons_cons,List.getElem?_cons_zero,Option.some.injEq] at hx0
  subst hx0
  rw [h1]
  refine cP ⟨⟨_,_,_,rfl⟩,fun _ h=>by cases h⟩ hx fun w1 hw=>?_
  have iy:∀w2,Off (fun k'=>blk (.slice (some ⟨g,0,none⟩) n1 c)=some k') w1 w2->Off (fun k'=>X k'∨blk (.slice (some ⟨g,0,none⟩) n1 c)=some k') w w2:=fun w2 hw2=>by
   refine ⟨hkp.trans (hw.1.trans hw2.1),fun m hm hno=>?_⟩
   have hmg:m≠g:=fun e=>hno (.inr (by rw [e];rfl))
   have e1:(w.setCells g k [Value.slice pv nv cv]).heap[m]?=w.heap[m]?:=hgr.block m hm fun e=>hmg (Option.some.inj e)
   have e2:w1.heap[m]?=(w.setCells g k [Value.slice pv nv cv]).heap[m]?:=hw.2 m (Nat.lt_of_lt_of_le hm hgr.size) fun h=>hno (.inl h)
   have e3:w2.heap[m]?=w1.heap[m]?:=hw2.2 m (Nat.lt_of_lt_of_le (Nat.lt_of_lt_of_le hm hgr.size) hw.1.1) fun h=>hno (.inr h)
   rw [e3,e2,e1]
  refine aL.intro (ss:=ss.set k (.slice pv nv cv)) (by rw [List.length_set,s1]) ((show dR 1 e _ _ n1 (ss.set k (.slice pv nv cv)) from hst).keep fun m hm'=>hw.2 m (hst.lt m hm') fun hx'=>?_) fun m s hs w2 hw2=>?_
  ·simp only [Value.ownBlock,Option.some.injEq] at hm'
   subst hm'
   exact hLX _ hLg hx'
  ·rw [List.getElem?_set] at hs
   split at hs
   ·rename_i e'
    subst e'
    split at hs
    ·obtain rfl:=Option.some.inj hs
     rw [<- hbv]
     refine hG' _ _ (hval w2 ((iy w2 hw2).wide fun m h=>h.imp id fun h=>?_))
     simp only [blk,Option.some.injEq] at h
     subst h;exact hLg
    ·cases hs
   ·rename_i e'
    exact hF' _ _ _ (fun h=>e' h.symm) (s3 m s hs w2 (iy w2 hw2))
def sv:Value->Option Nat
 | .pointer (some a)=>some a.block
 | _=>none
def lQ (F:WP) (w:World) (v:Value):Prop:=Ptr 1 (fun w u=>∃s,u = .agg #[s]∧∀w2,Off (fun k=>sv v=some k) w w2->F w2 s) w v
def sx (F:WP) (w:World) (v:Value):Prop:=∃p s,v = .agg #[p,s]∧∀w2,Off (fun k=>sv p=some k) w w2->F w2 s
def sy (F:WP) (w:World) (v:Value):Prop:=∃r i p s,v = .agg #[r,i,p,s]∧∀w2,Off (fun k=>blk r=some k) w w2->F w2 s
section
variable {P:Program}{y:Nat}{G:WP}
theorem sA  (hT:P.underlying T=some (.slice e)) (hp:∀w v,Φ p w v->aL e F n w v) (hq:∀w v,Φ q w v->v = .int .i64 (i:Int)) (hx:Φ x=lQ (F i)) (hy:Φ y=At 1) (hz:dg P e=some 1:=by kernel_rfl) (hi:i<n:=by omega) :
  aj Φ P ⟨0,[.fact p,.fact q],[oP x],.joint J y (aN T)⟩:=fun X w ac o xs hX hm ha=>by
 unfold aN at hm
 split at hm
 case h_2=>cases hm
 rename_i t a b ho
 split at hm
 case isFalse=>cases hm
 rename_i ht
 subst ht
 simp only [Option.some.injEq] at hm
 subst hm
 obtain ⟨s,c,hv,hc,he⟩:=aC.rw (hp _ _ (ha.1 w (Off.refl _ _)))
 obtain ⟨g,off,rfl,_⟩:=he i hi
 have hi2:=hq _ _ (ha.2.1 w (Off.refl _ _))
 have hr:(execOp ac.eval o).run P w = .ok (.value (.pointer (some ⟨g,off+i*1,none⟩))) w:=by
  unfold execOp
  have h4:¬n<=i:=by omega
  simp [ho,hv,hi2,Instr.indexAt,asIntOf,run_underlying hT,run_sizeOf hz,gV,h4]
 refine ⟨_,w,hr,bt w none,cP ⟨⟨_,rfl⟩,fun _ h=>by cases h⟩ hx fun w1 hw=>?_,fun w1 _=>?_⟩
 ·obtain ⟨s',c',hv',-,he'⟩:=aC.rw (hp _ _ (ha.1 w1 hw))
  obtain ⟨b',off',hb,l,h1,h2,s3,h3,h4⟩:=he' i hi
  rw [hv] at hv'
  simp only [Value.slice.injEq,true_and] at hv'
  rw [hb] at hv'
  simp only [Option.some.injEq,Addr.mk.injEq,and_true] at hv'
  obtain ⟨⟨rfl,rfl⟩,-⟩:=hv'
  refine ⟨g,_,rfl,l,h1,h2,s3,h3,fun w2 hw2=>h4 w2 ?_⟩
  rw [hv];exact hw2
 ·rw [hy]
  exact ⟨g,off,n,c,i,by simp [hv,hi2]⟩
theorem GC  (hS:∀w s,G w s->∃p n c,s = .slice p n c) (hp:∀w v,Φ p w v->lQ G w v) (hy:Φ y=sx G) (hT:gC P T=some false:=by kernel_rfl):aj Φ P ⟨0,[.fact p],[⟨.one .s,[]⟩],.joint J y (aO T)⟩:=fun X w ac o xs hX hm ha=>by
 unfold aO at hm
 split at hm
 case h_2=>cases hm
 rename_i t a ho
 split at hm
 case isFalse=>cases hm
 rename_i ht
 subst ht
 simp only [Option.some.injEq] at hm
 subst hm
 have A:∀w1,Off X w w1->lQ G w1 (ac.eval a):=fun w1 hw=>hp _ _ (ha.1 w1 hw)
 obtain ⟨b,off,u,hv,hX',hc⟩:=xo (F:=fun w u=>∃s,u = .agg #[s]∧G w s) (fun w1 hw=>by
  obtain ⟨b,off,hv,l,h1,h2,s,h3,h4⟩:=A w1 hw
  exact ⟨b,off,hv,l,h1,h2,s,h3,h4 w1 (Off.refl _ _)⟩) (fun w u ⟨s,e,hs⟩=>by
  obtain rfl:u=s:=by simpa using e
  exact hS w u hs)
 have key:∀w1,Off X w w1->∀w2,Off (fun k=>sv (ac.eval a)=some k) w1 w2->G w2 u:=fun w1 hw=>by
  obtain ⟨b',o',e,l',h1',h2',s,h3',h4⟩:=A w1 hw
  rw [hv] at e
  simp only [Value.pointer.injEq,Option.some.injEq,Addr.mk.injEq] at e
  obtain ⟨rfl,rfl,_⟩:=e
  obtain rfl:l' = [s]:=by simpa using h3'
  have hc':=h2' 0 s rfl
  rw [Nat.add_zero,World.cell?_of_block (hw.2 b (World.block_lt_of_cell? _ _ hc) hX'),hc] at hc'
  obtain rfl:=Option.some.inj hc'
  exact h4
 obtain ⟨p',n',c',rfl⟩:=hS _ _ (key w (Off.refl _ _) w (Off.refl _ _))
 refine ⟨.slice p' n' c',w,?_,bt w none,⟨⟨⟨⟨_,_,_,rfl⟩,fun _ h=>by cases h⟩,fun r hr=>by cases hr⟩,trivial⟩,fun w1 hw=>?_⟩
 ·unfold execOp
  simp [ho,hv,Instr.loadAt,Instr.sureAddr,loadVar,gD hT,hc]
 ·rw [hy]
  exact ⟨ac.eval a,_,by simp,key w1 hw⟩
theorem GD (hp:Φ p=At 1) (hq:Φ q=sx G) (hx:Φ x=sy G) (X:Nat->Prop) (w:World) (v:Value) (h:(Arg.parts (.agg [.s,.i,.p,.s]) [(0,3,p),(2,2,q)]).ok Φ X w v):(Arg.fact x).ok Φ X w v:=fun w1 hw=>by
 obtain ⟨⟨vs,rfl,hvs⟩,hf⟩:=h
 match vs,hvs with
 | [r,i,p',s],_=>
  have h1:=hf (0,3,p) (by simp) w1 hw
  have h2:=hf (2,2,q) (by simp) w1 hw
  rw [hp] at h1
  rw [hq] at h2
  rw [hx]
  obtain ⟨b,off,n,c,k,e1⟩:=h1
  obtain ⟨p2,s2,e2,h2⟩:=h2
  simp [bn,cellsOf,Value.cells] at e1 e2
  obtain ⟨rfl,rfl,rfl⟩:=e1
  obtain ⟨rfl,rfl⟩:=e2
  exact ⟨_,_,_,_,rfl,h2⟩
theorem GE (hG:dm G) (hq:Φ q=sy G) (hx:∀w v,G w v->Φ x w v) (X:Nat->Prop) (w:World) (v i p s:Value) (h:∀w1,Off X w w1->Φ q w1 (.agg #[v,i,p,s])):∀w1,Off (fun k=>X k∨blk v=some k) w w1->Φ x w1 s:=fun w1 hw=>by
 have A:∀w1,Off X w w1->∀w2,Off (fun k=>blk v=some k) w1 w2->G w2 s:=fun w1 hw=>by
  have:=h w1 hw
  rw [hq] at this
  obtain ⟨r',i',p',s',e,h⟩:=this
  simp only [Value.agg.injEq,Array.mk.injEq,List.cons.injEq,and_true] at e
  obtain ⟨rfl,rfl,rfl,rfl⟩:=e
  exact h
 exact hx _ _ (hG X (fun k=>blk v=some k) w s (fun w1 hw=>A w1 hw w1 (Off.refl _ _)) (A w (Off.refl _ _)) w1 hw)
end
theorem aL.to  (h:aL e F n w v) (hf:∀i w v,i<n->F i w v->G i w v):aL e G n w v:=
 aC.to (sz:=1) (n:=n) h fun i _ _ hi ⟨s,e,h⟩=>⟨s,e,fun w2 hw2=>hf i w2 s hi (h w2 hw2)⟩
def nf (T:TypeId):Op->Option (List Operand)
 | .slice t x (some l) none none=>if t=T then some [x,l] else none
 | _=>none
theorem GF {o:Op}{xs:List Operand} (h:nf T o=some xs):∃y z,o = .slice T y (some z) none none∧xs = [y,z]:=by
 unfold nf at h
 split at h
 case h_2=>cases h
 rename_i t y z
 split at h
 case isFalse=>cases h
 rename_i ht
 subst ht
 simp only [Option.some.injEq] at h
 exact ⟨y,z,rfl,h.symm⟩
theorem xp {P:Program} (hT:P.underlying T=some (.slice e)) (hp:∀w v,Φ p w v->Rw sz F n w v) (hq:∀w v,Φ q w v->v = .int .i64 (m:Int)) (hx:Φ x=Rw sz (fun i=>F (m+i)) (n-m)) (hz:dg P e=some sz:=by kernel_rfl) (hm':m<=n:=by omega):aj Φ P ⟨0,[.fact p,.fact q],[oS x],.quiet (nf T)⟩:=fun X w ac o xs _ hm ha=>by
 obtain ⟨y,z,ho,rfl⟩:=GF hm
 obtain ⟨s,c,hv,hc,he⟩:=hp _ _ (ha.1 w (Off.refl _ _))
 have hi2:=hq _ _ (ha.2.1 w (Off.refl _ _))
 refine ⟨.slice (if c=m then s else s.map (·.add (m*sz))) (n-m) (c-m),w,?_,bt w none,cP ⟨⟨_,_,_,rfl⟩,fun _ h=>by cases h⟩ hx fun w1 hw=>?_⟩
 ·unfold execOp
  simp only [ho,Option.map_none,Option.map_some,hv,hi2]
  simp [Instr.sliceAt,Instr.slice,run_underlying hT,Instr.sliceBounds,run_sliceBound (P:=P) w .i64 (m:Int) n .sliceB (by omega) (by omega),run_sizeOf hz]
 ·obtain ⟨s',c',hv',hc',he'⟩:=hp _ _ (ha.1 w1 hw)
  rw [hv] at hv'
  simp only [Value.slice.injEq,true_and] at hv'
  obtain ⟨rfl,rfl⟩:=hv'
  refine ⟨_,_,rfl,by omega,fun i hi=>?_⟩
  obtain ⟨b,off,rfl,l,h1,h2,h3⟩:=he' (m+i) (by omega)
  refine ⟨b,off+m*sz,?_,l,h1,fun j u hj=>?_,h3⟩
  ·rw [if_neg (by omega),Option.map_some,Addr.add_lit]
  ·rw [show off+m*sz+i*sz+j=off+(m+i)*sz+j by rw [Nat.add_mul];omega]
   exact h2 j u hj
def two (A B:PH) (a b:Nat) (c:Nat):WP:=Rw 1 (aw (if c=0 then A else B)) (if c=0 then a else b)
theorem pI  (h:Rw sz F n w v):v.cells = #[v]:=by
 obtain ⟨p,c,rfl,_⟩:=h;rfl
theorem xq {zc:C} (hT:prog.underlying T=some (.slice e)) (hp:∀w v,Φ p w v->Rw 1 (aw A) a w v) (hq:∀w v,Φ q w v->Rw 1 (aw B) b w v) (hx:Φ x=Rw 1 (aw (two A B a b)) 2) (hz:dg prog e=some 1:=by kernel_rfl) (h0:zeroAt prog e=some zc:=by kernel_rfl) :
  aj Φ prog ⟨0,[.any,.fact p,.fact q],[oS x],.fresh J (cu T 2)⟩:=
 eP (ps:=[p,q]) (sz:=1) hT (hz:=hz) (h0:=h0) rfl (fun i p' h w v hv=>by
  match i,h with
  | 0,h=>
   obtain rfl:=Option.some.inj h
   exact ⟨by rw [pI (hp w v hv)];rfl,v,by rw [pI (hp w v hv)],hp w v hv⟩
  | 1,h=>
   obtain rfl:=Option.some.inj h
   exact ⟨by rw [pI (hq w v hv)];rfl,v,by rw [pI (hq w v hv)],hq w v hv⟩
  | i+2,h=>simp at h) hx
theorem GG  (hU:prog.underlying t=some (.slice e)) (hp:∀w v,Φ p w v->v = .int .i64 (n:Int)) (hx:Φ x=fun w v=>aL e (fun _ _ v=>v = .slice none 0 0) n w v) (hI:(prog.info? e).map (fun i=>(i.zero,i.size,i.bytes))=some (some (.slice none 0 0),1,24):=by kernel_rfl) (hn:n<=1000000:=by omega) :
  aj Φ prog ⟨0,[.fact p,.fact p],[oS x],.loose [] j 0 (fK t)⟩:=fun X L w ac o xs hX hL hLX hm ha hb hbs=>by
 obtain ⟨i0,hi,hz0,hz1,hz2⟩:=info_parts hI
 have key:aj (fun y w v=>y≠n+x+p+1∧Φ y w v∨y=n+x+p+1∧aC 1 e (fun _ _ u=>u = .agg #[.slice none 0 0]) n w v) prog ⟨0,[.fact p,.fact p],[⟨.one .s,[(0,0,n+x+p+1)]⟩],.loose [] j 0 (fK t)⟩:=
  sB (F:=fun _ _ u=>u = .agg #[.slice none 0 0]) hU hi hz0 hz1 hz2 rfl (fun u hu=>by
   have:u = .slice none 0 0:=by simpa [Value.cells] using hu
   subst this
   exact fun _ _ _ h=>by cases h) (fun w v h=>by
    rcases h with h | h
    ·exact hp w v h.2
    ·omega) hn (fun _ _=>rfl) (by funext w v;simp)
 have hA:∀{Y:Nat->Prop}{v:Value},(Arg.fact p).ok Φ Y w v->(Arg.fact p).ok (fun y w v=>y≠n+x+p+1∧Φ y w v∨y=n+x+p+1∧aC 1 e (fun _ _ u=>u = .agg #[.slice none 0 0]) n w v) Y w v:=fun h w1 hw=>.inl ⟨by omega,h w1 hw⟩
 obtain ⟨y,u,hys⟩:∃y u,xs.map ac.eval = [y,u]:=by
  match xs.map ac.eval,ha with
  | [y,u],_=>exact ⟨y,u,rfl⟩
 rw [show List.map ac.eval xs = [y,u] from hys] at ha hbs
 obtain ⟨u',w',r,g1,g2,g3,g4,g5,g6,⟨g7,g8⟩,-⟩:=key X L w ac o xs hX hL hLX hm (by
  show cQ _ _ _ _ (List.map ac.eval xs)
  rw [hys];exact ⟨hA ha.1,hA ha.2.1,trivial⟩) hb (by
  show cQ _ _ _ _ (List.map ac.eval xs)
  rw [hys];exact ⟨trivial,hA hbs.2.1,trivial⟩)
 refine ⟨u',w',r,g1,g2,g3,g4,g5,g6,cP g7 hx fun w1 hw=>?_⟩
 rcases g8 (0,0,n+x+p+1) (List.mem_singleton.2 rfl) w1 hw with h | h
 ·exact absurd rfl h.1
 ·exact aC.to (sz:=1) (n:=n) h.2 fun i w v _ h=>⟨_,h,fun _ _=>rfl⟩
theorem xr  (hU:prog.underlying t=some (.slice e)) (hq:∀w v,Φ q w v->v = .int .i64 (n:Int)) (hx:Φ x=lO 1 e) (hI:(prog.info? e).map (fun i=>(i.zero,i.size,i.bytes))=some (some (.slice none 0 0),1,24):=by kernel_rfl) (h0:0<n:=by omega) (hn:n<=1000000:=by omega):aj Φ prog ⟨0,[.lit .nl,.fact q],[oS x],.loose [] j 0 (bO t 3)⟩:=fun X L w ac o ys hX hL hLX hm ha hb _=>by
 obtain ⟨y,u,hys⟩:∃y u,ys.map ac.eval = [y,u]:=by
  match ys.map ac.eval,ha with
  | [y,u],_=>exact ⟨y,u,rfl⟩
 rw [show List.map ac.eval ys = [y,u] from hys] at ha
 obtain ⟨a,b,ho,rfl,ea,eb⟩:=lN hm hys
 have hy:y = .slice none 0 0:=ha.1
 have hu:=hq _ _ (ha.2.1 w (Off.refl _ _))
 obtain ⟨i0,hi,hz0,hz1,hz2⟩:=info_parts hI
 have hcm:grownCap w (0+n) 0 e<=maxLen:=grownCap_le_maxLen w (0+n) 0 e (by simp only [maxLen];omega)
 have hge:=grownCap_ge w (0+n) 0 e
 have hr:=Lib.run_append_grow_zeros (P:=prog) w t 3 o.type e i0 _ .i64 .i64 hU underlying3 hi hz0 none 0 0 [] (by simp [Builtin.firstCells]) n h0 (by rw [hz1];omega) (by omega) (by omega) (by rw [hz2];omega) (growslice_fits (by omega) (by rw [hz2];omega))
 have hrun:=jC (o:=o) (P:=prog) ho (by rw [ea,hy]) (by rw [eb,hu]) hr
 have hgr:∀b,w.grownBy (w.drew.alloc b) none:=fun b=>⟨rfl,rfl,rfl,(World.grownBy_alloc w.drew b none).size,(World.grownBy_alloc w.drew b none).block⟩
 have nn:∀u:Value,u ∈ (Value.slice none 0 0).cells.toList->cL u:=fun u hu=>by
  have:u = .slice none 0 0:=by simpa [Value.cells] using hu
  subst this
  exact fun _ _ _ h=>by cases h
 refine ⟨_,_,none,hrun,hgr _,(fun _ h=>by cases h),Kp.of (hgr _),(fun m q v _ h4 h5=>⟨cell_grown (hgr _) h4,gz (hgr _) h4 h5⟩),fun m hm'=>?_,cP ⟨⟨_,_,_,rfl⟩,fun _ h=>by cases h⟩ hx fun w1 hw=>?_⟩
 ·simp only [blk,Option.some.injEq] at hm'
  subst hm'
  exact ⟨by simp,.inr (Nat.le_refl _)⟩
 ·refine ⟨w.heap.size,_,_,_,rfl,(hw.2 w.heap.size (by simp) (fun h=>by have:=hX _ h;omega)).trans (heap_alloc_new w.drew _),hcm,?_,fun u hu=>?_⟩
  ·simp only [Array.size_append,List.size_toArray,List.length_nil,size_zeroCells,Nat.zero_add] at hge ⊢
   rw [show (Value.slice none 0 0).cells.size=1 from rfl]
   omega
  ·simp only [Array.toList_append,List.mem_append] at hu
   rcases hu with (hu | hu) | hu
   ·simp at hu
   ·exact jB nn (by decide) _ u hu
   ·exact jB nn (by decide) _ u hu
def cw (N:Nat->Nat):Nat->Nat
 | 0=>0
 | j+1=>cw N j+N j
def dZ (F:Nat->PH) (N:Nat->Nat):Nat->PH
 | 0,_=>fun _ _=>False
 | j+1,i=>if i<cw N j then dZ F N j i else F j (i-cw N j)
theorem xt {F:Nat->PH}{N:Nat->Nat} (hF:∀c i,dm (F c i)):∀j i,dm (dZ F N j i)
 | 0,_=>fun _ _ w _ hX _ _ _=>(hX w (Off.refl _ _)).elim
 | j+1,i=>by
  rw [dZ]
  split
  ·exact xt hF j i
  ·exact hF _ _
theorem xu {F:Nat->PH} (hU:prog.underlying t=some (.slice e)) (hS:∀c i w s,F c i w s->∃p n c,s = .slice p n c) (hF:∀c i,dm (F c i)) (hn:cw N (i+1)<=1000000) (hp:∀w v,Φ p w v->aL e (dZ F N i) (cw N i) w v) (hq:∀w v,Φ q w v->Rw 1 (aw (F i)) (N i) w v) (hx:Φ x=aL e (dZ F N (i+1)) (cw N (i+1))) (hI:(prog.info? e).map (fun i=>(i.zero,i.size,i.bytes))=some (some (.slice none 0 0),1,24):=by kernel_rfl):aj Φ prog ⟨0,[.fact p,.fact q],[oS x],.loose [] j 0 (bO t t)⟩:=
 GB (F':=dZ F N (i+1)) hU hI (hS i) (xt hF i) hp hq (fun ι w v hι h=>by rw [dZ,if_pos hι];exact h) (fun ι w v hι h=>by rw [dZ,if_neg (by omega),Nat.add_sub_cancel_left];exact h) hn hx
theorem GH  (hp:∀w v,Φ p w v->aL e F n w v) (hq:Φ q=gW n):∀(w w':World) (v:Value),Φ p w v->Φ q w' v:=fun w w' v h=>by
 rw [hq]
 obtain ⟨p,c,rfl,_⟩:=(hp w v h).rw
 exact ⟨p,c,rfl⟩
def FB (A G:PH) (r i:Nat):WP:=if i<r then G i else A i
theorem sC  (hA:∀i,dm (A i)) (hG:∀i,dm (G i)) (r i:Nat):dm (FB A G r i):=by
 unfold FB
 split
 ·exact hG i
 ·exact hA i
theorem xw  (h:FB A G r r w v):A r w v:=by
 unfold FB at h
 rwa [if_neg (Nat.lt_irrefl r)] at h
theorem xz  (h:G r w v):FB A G (r+1) r w v:=by
 unfold FB
 rwa [if_pos (Nat.lt_succ_self r)]
theorem xA {k:Nat} (hk:k≠r) (h:FB A G r k w v):FB A G (r+1) k w v:=by
 unfold FB at h ⊢
 split
 ·rwa [if_pos (by omega)] at h
 ·rwa [if_neg (by omega)] at h
theorem xB  (h:aL e A n w v):aL e (FB A G 0) n w v:=h.to fun i w v _ h=>by
 unfold FB
 rwa [if_neg (Nat.not_lt_zero i)]
theorem xC  (h:aL e (FB A G n) n w v):aL e G n w v:=h.to fun i w v hi h=>by
 unfold FB at h
 rwa [if_pos hi] at h
def GI (n:Nat):List WP:=[Nz n,Nz n,lO 1 129,aC 1 129 (fun _ _ _=>False) 0]
def GJ:List Step:=[bQ [0,.lit (.ci .i64 0)] oF (au .lss),bQ [.lit .nl] [oL (.ci .i64 0)] (gT 128),bQ [.lit .nl] [oL (.ci .i64 0)] (aK 128),bQ [0,.lit (.ci .i64 0)] [oN 1] (au .sub),bQ [1,.lit (.ci .i64 0)] oT (au .gtr),bQ [.lit .nl] [oL (.ci .i64 0)] (gT 128),bQ [.lit .nl,.lit (.ci .i64 0)] [⟨.one (.lit (.nl)),[]⟩] (er 128),.base ⟨0,[.lit .nl,1],[oS 2],.loose [] 1 0 (bO 128 3)⟩,bQ [.lit .nl] [oL (.ci .i64 0)] (aK 128),.base ⟨0,[2,.lit (.ci .i64 0)],[oS 3],.loose [] 1 0 (er 128)⟩]
def GK:List Out:=[⟨.one (.lit (.nl)),[]⟩,oN 0]
theorem GL  (hn:n<=1000000) (h0:0<n):eY (ph (GI n)) prog ⟨190,[.lit (.nl),0],[oS 3],false⟩:=jf GK [oS 3] GJ func190 (by kernel_rfl) (lB (cB (op:=.lss) ad (cj (show decide (((n:Nat):Int)<0)=false from decide_eq_false (by omega)) (by simp))) (lB (jd underlying128) (lB (je underlying128) (lB (eg ad rfl) (lB (gB ad) (lB (jd underlying128) (lB (sn (sz:=1) underlying128) (lB (xr underlying128 ad rfl) (lB (je underlying128) (lB (sq (F:=(fun _ _ _=>False)) underlying128 ad rfl) aD))))))))))
  (aM [.lit (.nl),.fact 0 (.one (.i))] ⟨(fun _ h=>by cases h),fun _ _ h=>h▸dc _,trivial⟩) (fun _ _ _ h=>h)
def GM (n:Nat):List WP:=[Nz n,Nz n]
def GN:List Step:=[bQ [0,.lit (.ci .i64 0)] oF (au .lss),bQ [.lit .nl] [oL (.ci .i64 0)] (gT 128),bQ [.lit .nl] [oL (.ci .i64 0)] (aK 128),bQ [0,.lit (.ci .i64 0)] [oN 1] (au .sub),bQ [1,.lit (.ci .i64 0)] oF (au .gtr)]
def GO:List Out:=[⟨.one (.lit (.nl)),[]⟩,oN 0]
theorem GP  (h0:n=0):aj (ph (GM n)) prog ⟨190,[.lit (.nl),0],[⟨.one (.lit (.nl)),[]⟩],false⟩:=aQ GO [⟨.one (.lit (.nl)),[]⟩] GN func190 (by kernel_rfl) (lB (cB (op:=.lss) ad (cj (show decide (((n:Nat):Int)<0)=false from decide_eq_false (by omega)) (by simp))) (lB (jd underlying128) (lB (je underlying128) (lB (eg ad rfl) (lB (kD ad) aD)))))
  (aM [.lit (.nl),.fact 0 (.one (.i))] ⟨(fun _ h=>by cases h),fun _ _ h=>h▸dc _,trivial⟩) (fun _ _ _ h=>h)
theorem GQ  (hq:∀w v,Φ q w v->v = .int .i64 (n:Int)) (hx:Φ x=aL 129 F 0) (hn:n<=1000000:=by omega):aj Φ prog ⟨190,[.lit .nl,.fact q],[oS x],.eN J j⟩:=by
 rcases Nat.eq_zero_or_pos n with h | h
 ·intro X w vs hX ha
  refine (aT (outs:=[⟨.one (.lit .nl),[]⟩]) (Φ:=Φ) (ar:=[.lit .nl,.fact q]) (GP (n:=n) h) ⟨rfl,hq,trivial⟩ ⟨⟨rfl,trivial⟩,trivial⟩ X w vs hX ha).mono fun e w' ⟨hg,us,he,h2⟩=>?_
  match us,h2 with
  | [u],h2=>
   have e':u = .slice none 0 0:=h2.1.1.1
   subst e'
   exact ⟨hg,_,he,cP ⟨⟨_,_,_,rfl⟩,fun _ h=>by cases h⟩ hx fun w1 _=>aL.nil _ _ _,fun g hg'=>by cases hg'⟩
 ·exact jD (GL (n:=n) hn h) ⟨rfl,hq,trivial⟩ ⟨⟨rfl,⟨rfl,rfl,fun _ _ h=>by
   rw [hx]
   exact aL.xm (G:=fun _ _ _=>False) h⟩,trivial⟩,trivial⟩
def ng (F:Nat->PH) (N:Nat->Nat) (n:Nat):List WP:=[Rw 1 (aw (fun c=>Rw 1 (aw (F c)) (N c))) n,Nz n,Nz ((cw N n)),aL 129 (dZ F N 0) (cw N 0),Nz n,aL 129 (dZ F N n) (cw N n)]
def GS (F:Nat->PH) (N:Nat->Nat) (j:Nat):List WP:=[Nz j,aL 129 (dZ F N j) (cw N j),fun _ _=>True,Ptr 1 (aw (fun c=>Rw 1 (aw (F c)) (N c)) j),Rw 1 (aw (F j)) (N j),aL 129 (dZ F N (j+1)) (cw N (j+1)),Nz (j+1)]
def xD:bJ:=⟨[0,2,3,9,10,11,12,23,24,25,26],[(.slot 27,.i),(.slot 6,.s)],[(.one 0,6),(.one 1,.cD [1] 7),(.one 1,.lo 1)],[.closed (.one (.ci .i64 0)),.frm 3,.frm 0],6,[(7,5)]⟩
def xE:List Step:=[bQ [6,4] oT (au .lss),bQ [0,6] [oP 9] (aN 210),bQ [9] [oS 10] (aO 128),.base ⟨0,[7,10],[oS 11],.loose [] 1 0 (bO 128 128)⟩,bQ [6,.lit (.ci .i64 1)] [oN 12] (au .add)]
def GT:List Step:=[bQ [6,4] oF (au .lss)]
def GU (F:Nat->PH) (N:Nat->Nat) (j:Nat):List WP:=[Nz j,Nz ((cw N j)),Ptr 1 (aw (fun c=>Rw 1 (aw (F c)) (N c)) j),Rw 1 (aw (F j)) (N j),Nz (N j),Nz ((cw N (j+1))),Nz (j+1)]
def xF:bJ:=⟨[0,2,9,10],[(.slot 11,.i),(.slot 3,.i)],[(.one 0,6),(.one 1,7)],[.closed (.one (.ci .i64 0)),.closed (.one (.ci .i64 0))],6,[(7,2)]⟩
def xG:List Step:=[bQ [6,1] oT (au .lss),bQ [0,6] [oP 8] (aN 210),bQ [8] [oS 9] (aO 128),bQ [9] [oN 10] (aK 128),bQ [7,10] [oN 11] (au .add),bQ [11,.lit (.ci .i64 0)] oF (au .lss),bQ [6,.lit (.ci .i64 1)] [oN 12] (au .add)]
def GV:List Step:=[bQ [6,1] oF (au .lss)]
def GW:List Step:=[bQ [0] [oN 1] (aK 210),.loop xF [(xG,[.frm 12,.frm 11])] GV,.base ⟨190,[.lit .nl,2],[oS 3],.eN [] 1⟩,bQ [0] [oN 4] (aK 210),.loop xD [(xE,[.frm 12,.frm 11,.frm 0])] GT]
def GX:List Out:=[oS 0]
theorem GY {F:Nat->PH} (hs:∀j,j<=n->cw N j<=1000000) (hS:∀c i w s,F c i w s->∃p n c,s = .slice p n c) (hF:∀c i,dm (F c i)) (hn:n<=1000:=by omega):eY (ph (ng F N n)) prog ⟨181,[0],[oS 5],false⟩:=by
 have hsn:=hs n (Nat.le_refl n)
 exact jf GX [oS 5] GW func181 (by kernel_rfl) (lB (aS (F:=(aw (fun c=>Rw 1 (aw (F c)) (N c)))) underlying210 ad rfl) (cm (counted n (fun j=>ph (ng F N n ++ GU F N j)) (fun _=>0) (fun j p hp=>cn (show p<(ng F N n).length from hp)) ⟨fun _=>rfl,fun _=>rfl,trivial⟩ (fun j hj=>by
   have hs1:=hs (j+1) (by omega);have hs0:=hs j (by omega)
   exact ⟨(xG,[.frm 12,.frm 11]),rfl,⟨ad,ad,trivial⟩,(lB (bH ad ad) (lB (co (i:=j) (F:=(aw (fun c=>Rw 1 (aw (F c)) (N c)))) underlying210 ad ad rfl) (lB (fi (G:=Rw 1 (aw (F j)) (N j)) ad (fun _ _ h=>dE h) rfl) (lB (aS (F:=(aw (F j))) underlying128 ad rfl) (lB (jg ad ad (hc:=(by rw [cw];omega)) rfl) (lB (cB (op:=.lss) ad (cj (show decide (((((cw N (j+1))):Nat):Int)<0)=false from decide_eq_false (by omega)) (by simp))) (lB (ct ad rfl) aD)))))))⟩) (lB (tlF ad ad) aD)
   (fun q hq w v h=>by
    simp only [xF,List.mem_cons,List.not_mem_nil,or_false] at hq
    rcases hq with rfl
    ·exact (fun h=>h) h)) (lB (GQ (F:=dZ F N 0) ad rfl) (lB (aS (F:=(aw (fun c=>Rw 1 (aw (F c)) (N c)))) underlying210 ad rfl) (cm (counted n (fun j=>ph (ng F N n ++ GS F N j)) (fun _=>0) (fun j p hp=>cn (show p<(ng F N n).length from hp)) ⟨fun _=>rfl,ad,bS,trivial⟩ (fun j hj=>by
   skip
   exact ⟨(xE,[.frm 12,.frm 11,.frm 0]),rfl,⟨ad,ad,bS,trivial⟩,(lB (bH ad ad) (lB (co (i:=j) (F:=(aw (fun c=>Rw 1 (aw (F c)) (N c)))) underlying210 ad ad rfl) (lB (fi (G:=Rw 1 (aw (F j)) (N j)) ad (fun _ _ h=>dE h) rfl) (lB (xu (i:=j) underlying128 hS hF (hs (j+1) (by omega)) ad ad rfl) (lB (ct ad rfl) aD)))))⟩) (lB (tlF ad ad) aD)
   (fun q hq w v h=>by
    simp only [xD,List.mem_cons,List.not_mem_nil,or_false] at hq
    rcases hq with rfl
    ·exact (fun h=>h) h)) aD)))))
  (aM [.fact 0 (.one (.s))] ⟨Rw.Is 1 (aw (fun c=>Rw 1 (aw (F c)) (N c))) n,trivial⟩) aV
theorem GZ {m:Nat}{C:PH} (hp:∀w v,Φ p w v->Rw 1 (aw (two A B a b)) 2 w v) (hx:Φ x=aL 129 C m) (hA:∀i w s,A i w s->∃p n c,s = .slice p n c) (hB:∀i w s,B i w s->∃p n c,s = .slice p n c) (uA:∀i,dm (A i)) (uB:∀i,dm (B i)) (hAC:∀i w v,i<a->A i w v->C i w v) (hBC:∀i w v,i<b->B i w v->C (a+i) w v) (hm:a+b=m:=by omega) (hab:a+b<=1000000:=by omega) :
  aj Φ prog ⟨181,[.fact p],[oS x],.eN J j⟩:=by
 subst hm
 exact jD (GY (F:=fun c=>if c=0 then A else B) (N:=fun c=>if c=0 then a else b) (n:=2) (fun j hj=>by
  rcases (show j=0∨j=1∨j=2 by omega) with rfl | rfl | rfl <;> simp [cw] <;> omega) (fun c i w s h=>by
  split at h
  ·exact hA _ _ _ h
  ·exact hB _ _ _ h) (fun c i=>by
  split
  ·exact uA _
  ·exact uB _)) ⟨fun _ _ h=>hp _ _ h,trivial⟩ ⟨⟨rfl,⟨rfl,rfl,fun w v h=>by
  rw [hx]
  have h':aL 129 (dZ (fun c=>if c=0 then A else B) (fun c=>if c=0 then a else b) 2) (a+b) w v:=by
   have e2:cw (fun c=>if c=0 then a else b) 2=a+b:=by simp [cw]
   rw [<- e2];exact h
  refine h'.to fun i w v hi h=>?_
  have e1:cw (fun c=>if c=0 then a else b) 1=a:=by simp [cw]
  rw [dZ,e1] at h
  by_cases hia:i<a
  ·rw [if_pos hia,dZ,if_neg (show ¬i<cw (fun c=>if c=0 then a else b) 0 from Nat.not_lt_zero _)] at h
   exact hAC i w v hia h
  ·rw [if_neg hia] at h
   have:=hBC (i-a) w v (by omega) h
   rwa [show a+(i-a)=i by omega] at this⟩,trivial⟩,trivial⟩
def Hf (n:Nat):List WP:=[Nz n,Nz n,lO 1 24,aC 1 24 (fun _ _ _=>False) 0]
def Hi:List Step:=[bQ [0,.lit (.ci .i64 0)] oF (au .lss),bQ [.lit .nl] [oL (.ci .i64 0)] (gT 129),bQ [.lit .nl] [oL (.ci .i64 0)] (aK 129),bQ [0,.lit (.ci .i64 0)] [oN 1] (au .sub),bQ [1,.lit (.ci .i64 0)] oT (au .gtr),bQ [.lit .nl] [oL (.ci .i64 0)] (gT 129),bQ [.lit .nl,.lit (.ci .i64 0)] [⟨.one (.lit (.nl)),[]⟩] (er 129),.base ⟨0,[.lit .nl,1],[oS 2],.loose [] 1 0 (bO 129 3)⟩,bQ [.lit .nl] [oL (.ci .i64 0)] (aK 129),.base ⟨0,[2,.lit (.ci .i64 0)],[oS 3],.loose [] 1 0 (er 129)⟩]
def Hj:List Out:=[⟨.one (.lit (.nl)),[]⟩,oN 0]
theorem Hp  (hn:n<=1000000) (h0:0<n):eY (ph (Hf n)) prog ⟨191,[.lit (.nl),0],[oS 3],false⟩:=jf Hj [oS 3] Hi func191 (by kernel_rfl) (lB (cB (op:=.lss) ad (cj (show decide (((n:Nat):Int)<0)=false from decide_eq_false (by omega)) (by simp))) (lB (jd underlying129) (lB (je underlying129) (lB (eg ad rfl) (lB (gB ad) (lB (jd underlying129) (lB (sn (sz:=1) underlying129) (lB (xr underlying129 ad rfl) (lB (je underlying129) (lB (sq (F:=(fun _ _ _=>False)) underlying129 ad rfl) aD))))))))))
  (aM [.lit (.nl),.fact 0 (.one (.i))] ⟨(fun _ h=>by cases h),fun _ _ h=>h▸dc _,trivial⟩) (fun _ _ _ h=>h)
def Hz (n:Nat):List WP:=[Nz n,Nz n]
def HF:List Step:=[bQ [0,.lit (.ci .i64 0)] oF (au .lss),bQ [.lit .nl] [oL (.ci .i64 0)] (gT 129),bQ [.lit .nl] [oL (.ci .i64 0)] (aK 129),bQ [0,.lit (.ci .i64 0)] [oN 1] (au .sub),bQ [1,.lit (.ci .i64 0)] oF (au .gtr)]
def HH:List Out:=[⟨.one (.lit (.nl)),[]⟩,oN 0]
theorem HI  (h0:n=0):aj (ph (Hz n)) prog ⟨191,[.lit (.nl),0],[⟨.one (.lit (.nl)),[]⟩],false⟩:=aQ HH [⟨.one (.lit (.nl)),[]⟩] HF func191 (by kernel_rfl) (lB (cB (op:=.lss) ad (cj (show decide (((n:Nat):Int)<0)=false from decide_eq_false (by omega)) (by simp))) (lB (jd underlying129) (lB (je underlying129) (lB (eg ad rfl) (lB (kD ad) aD)))))
  (aM [.lit (.nl),.fact 0 (.one (.i))] ⟨(fun _ h=>by cases h),fun _ _ h=>h▸dc _,trivial⟩) (fun _ _ _ h=>h)
theorem HJ  (hq:∀w v,Φ q w v->v = .int .i64 (n:Int)) (hx:Φ x=aL 24 F 0) (hn:n<=1000000:=by omega):aj Φ prog ⟨191,[.lit .nl,.fact q],[oS x],.eN J j⟩:=by
 rcases Nat.eq_zero_or_pos n with h | h
 ·intro X w vs hX ha
  refine (aT (outs:=[⟨.one (.lit .nl),[]⟩]) (Φ:=Φ) (ar:=[.lit .nl,.fact q]) (HI (n:=n) h) ⟨rfl,hq,trivial⟩ ⟨⟨rfl,trivial⟩,trivial⟩ X w vs hX ha).mono fun e w' ⟨hg,us,he,h2⟩=>?_
  match us,h2 with
  | [u],h2=>
   have e':u = .slice none 0 0:=h2.1.1.1
   subst e'
   exact ⟨hg,_,he,cP ⟨⟨_,_,_,rfl⟩,fun _ h=>by cases h⟩ hx fun w1 _=>aL.nil _ _ _,fun g hg'=>by cases hg'⟩
 ·exact jD (Hp (n:=n) hn h) ⟨rfl,hq,trivial⟩ ⟨⟨rfl,⟨rfl,rfl,fun _ _ h=>by
   rw [hx]
   exact aL.xm (G:=fun _ _ _=>False) h⟩,trivial⟩,trivial⟩
def nh (F:Nat->PH) (N:Nat->Nat) (n:Nat):List WP:=[Rw 1 (aw (fun c=>Rw 1 (aw (F c)) (N c))) n,Nz n,Nz ((cw N n)),aL 24 (dZ F N 0) (cw N 0),Nz n,aL 24 (dZ F N n) (cw N n)]
def HK (F:Nat->PH) (N:Nat->Nat) (j:Nat):List WP:=[Nz j,aL 24 (dZ F N j) (cw N j),fun _ _=>True,Ptr 1 (aw (fun c=>Rw 1 (aw (F c)) (N c)) j),Rw 1 (aw (F j)) (N j),aL 24 (dZ F N (j+1)) (cw N (j+1)),Nz (j+1)]
def xH:bJ:=⟨[0,2,3,9,10,11,12,23,24,25,26],[(.slot 27,.i),(.slot 6,.s)],[(.one 0,6),(.one 1,.cD [1] 7),(.one 1,.lo 1)],[.closed (.one (.ci .i64 0)),.frm 3,.frm 0],6,[(7,5)]⟩
def xJ:List Step:=[bQ [6,4] oT (au .lss),bQ [0,6] [oP 9] (aN 128),bQ [9] [oS 10] (aO 129),.base ⟨0,[7,10],[oS 11],.loose [] 1 0 (bO 129 129)⟩,bQ [6,.lit (.ci .i64 1)] [oN 12] (au .add)]
def HP:List Step:=[bQ [6,4] oF (au .lss)]
def HQ (F:Nat->PH) (N:Nat->Nat) (j:Nat):List WP:=[Nz j,Nz ((cw N j)),Ptr 1 (aw (fun c=>Rw 1 (aw (F c)) (N c)) j),Rw 1 (aw (F j)) (N j),Nz (N j),Nz ((cw N (j+1))),Nz (j+1)]
def xK:bJ:=⟨[0,2,9,10],[(.slot 11,.i),(.slot 3,.i)],[(.one 0,6),(.one 1,7)],[.closed (.one (.ci .i64 0)),.closed (.one (.ci .i64 0))],6,[(7,2)]⟩
def xL:List Step:=[bQ [6,1] oT (au .lss),bQ [0,6] [oP 8] (aN 128),bQ [8] [oS 9] (aO 129),bQ [9] [oN 10] (aK 129),bQ [7,10] [oN 11] (au .add),bQ [11,.lit (.ci .i64 0)] oF (au .lss),bQ [6,.lit (.ci .i64 1)] [oN 12] (au .add)]
def HW:List Step:=[bQ [6,1] oF (au .lss)]
def Ia:List Step:=[bQ [0] [oN 1] (aK 128),.loop xK [(xL,[.frm 12,.frm 11])] HW,.base ⟨191,[.lit .nl,2],[oS 3],.eN [] 1⟩,bQ [0] [oN 4] (aK 128),.loop xH [(xJ,[.frm 12,.frm 11,.frm 0])] HP]
def Ib:List Out:=[oS 0]
theorem Ic {F:Nat->PH} (hs:∀j,j<=n->cw N j<=1000000) (hS:∀c i w s,F c i w s->∃p n c,s = .slice p n c) (hF:∀c i,dm (F c i)) (hn:n<=1000:=by omega):eY (ph (nh F N n)) prog ⟨182,[0],[oS 5],false⟩:=by
 have hsn:=hs n (Nat.le_refl n)
 exact jf Ib [oS 5] Ia func182 (by kernel_rfl) (lB (aS (F:=(aw (fun c=>Rw 1 (aw (F c)) (N c)))) underlying128 ad rfl) (cm (counted n (fun j=>ph (nh F N n ++ HQ F N j)) (fun _=>0) (fun j p hp=>cn (show p<(nh F N n).length from hp)) ⟨fun _=>rfl,fun _=>rfl,trivial⟩ (fun j hj=>by
   have hs1:=hs (j+1) (by omega);have hs0:=hs j (by omega)
   exact ⟨(xL,[.frm 12,.frm 11]),rfl,⟨ad,ad,trivial⟩,(lB (bH ad ad) (lB (co (i:=j) (F:=(aw (fun c=>Rw 1 (aw (F c)) (N c)))) underlying128 ad ad rfl) (lB (fi (G:=Rw 1 (aw (F j)) (N j)) ad (fun _ _ h=>dE h) rfl) (lB (aS (F:=(aw (F j))) underlying129 ad rfl) (lB (jg ad ad (hc:=(by rw [cw];omega)) rfl) (lB (cB (op:=.lss) ad (cj (show decide (((((cw N (j+1))):Nat):Int)<0)=false from decide_eq_false (by omega)) (by simp))) (lB (ct ad rfl) aD)))))))⟩) (lB (tlF ad ad) aD)
   (fun q hq w v h=>by
    simp only [xK,List.mem_cons,List.not_mem_nil,or_false] at hq
    rcases hq with rfl
    ·exact (fun h=>h) h)) (lB (HJ (F:=dZ F N 0) ad rfl) (lB (aS (F:=(aw (fun c=>Rw 1 (aw (F c)) (N c)))) underlying128 ad rfl) (cm (counted n (fun j=>ph (nh F N n ++ HK F N j)) (fun _=>0) (fun j p hp=>cn (show p<(nh F N n).length from hp)) ⟨fun _=>rfl,ad,bS,trivial⟩ (fun j hj=>by
   skip
   exact ⟨(xJ,[.frm 12,.frm 11,.frm 0]),rfl,⟨ad,ad,bS,trivial⟩,(lB (bH ad ad) (lB (co (i:=j) (F:=(aw (fun c=>Rw 1 (aw (F c)) (N c)))) underlying128 ad ad rfl) (lB (fi (G:=Rw 1 (aw (F j)) (N j)) ad (fun _ _ h=>dE h) rfl) (lB (xu (i:=j) underlying129 hS hF (hs (j+1) (by omega)) ad ad rfl) (lB (ct ad rfl) aD)))))⟩) (lB (tlF ad ad) aD)
   (fun q hq w v h=>by
    simp only [xH,List.mem_cons,List.not_mem_nil,or_false] at hq
    rcases hq with rfl
    ·exact (fun h=>h) h)) aD)))))
  (aM [.fact 0 (.one (.s))] ⟨Rw.Is 1 (aw (fun c=>Rw 1 (aw (F c)) (N c))) n,trivial⟩) aV
theorem Id {m:Nat}{C:PH} (hp:∀w v,Φ p w v->Rw 1 (aw (two A B a b)) 2 w v) (hx:Φ x=aL 24 C m) (hm:a+b=m) (hab:a+b<=1000000) (hA:∀i w s,A i w s->∃p n c,s = .slice p n c) (hB:∀i w s,B i w s->∃p n c,s = .slice p n c) (uA:∀i,dm (A i)) (uB:∀i,dm (B i)) (hAC:∀i w v,i<a->A i w v->C i w v) (hBC:∀i w v,i<b->B i w v->C (a+i) w v) :
  aj Φ prog ⟨182,[.fact p],[oS x],.eN J j⟩:=by
 subst hm
 exact jD (Ic (F:=fun c=>if c=0 then A else B) (N:=fun c=>if c=0 then a else b) (n:=2) (fun j hj=>by
  rcases (show j=0∨j=1∨j=2 by omega) with rfl | rfl | rfl <;> simp [cw] <;> omega) (fun c i w s h=>by
  split at h
  ·exact hA _ _ _ h
  ·exact hB _ _ _ h) (fun c i=>by
  split
  ·exact uA _
  ·exact uB _)) ⟨fun _ _ h=>hp _ _ h,trivial⟩ ⟨⟨rfl,⟨rfl,rfl,fun w v h=>by
  rw [hx]
  have h':aL 24 (dZ (fun c=>if c=0 then A else B) (fun c=>if c=0 then a else b) 2) (a+b) w v:=by
   have e2:cw (fun c=>if c=0 then a else b) 2=a+b:=by simp [cw]
   rw [<- e2];exact h
  refine h'.to fun i w v hi h=>?_
  have e1:cw (fun c=>if c=0 then a else b) 1=a:=by simp [cw]
  rw [dZ,e1] at h
  by_cases hia:i<a
  ·rw [if_pos hia,dZ,if_neg (show ¬i<cw (fun c=>if c=0 then a else b) 0 from Nat.not_lt_zero _)] at h
   exact hAC i w v hia h
  ·rw [if_neg hia] at h
   have:=hBC (i-a) w v (by omega) h
   rwa [show a+(i-a)=i by omega] at this⟩,trivial⟩,trivial⟩
theorem Ie {m:Nat}{C:PH} (hp:∀w v,Φ p w v->Rw 1 (aw (two A B a b)) 2 w v) (hx:Φ x=Rw 1 (aw C) m) (hA:∀i w s,A i w s->∃p n c,s = .slice p n c) (hB:∀i w s,B i w s->∃p n c,s = .slice p n c) (uA:∀i,dm (A i)) (uB:∀i,dm (B i)) (hAC:∀i w v,i<a->A i w v->C i w v) (hBC:∀i w v,i<b->B i w v->C (a+i) w v) (hm:a+b=m:=by omega) (hab:a+b<=1000000:=by omega) :
  aj Φ prog ⟨182,[.fact p],[oS x],false⟩:=
 aT (eY.call (md:=.eN [] 0) (Id (Φ:=ph [Rw 1 (aw (two A B a b)) 2,aL 24 C m]) (p:=0) (x:=1) (J:=[]) (j:=0) ad rfl hm hab hA hB uA uB hAC hBC)) ⟨hp,trivial⟩ ⟨⟨rfl,⟨rfl,rfl,fun w v h=>by
  rw [hx]
  exact aL.rw (e:=24) h⟩,trivial⟩,trivial⟩
end Go.Proofs.YtbjfgffibepmkaaGreat.Sym
