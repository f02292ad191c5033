/- Rows whose elements are -/
import Derived.Test.YtlmanbjkkjfjgaaGreatRowP
set_option maxRecDepth 100000
namespace Go.Proofs.YtlmanbjkkjfjgaaGreat.Sym
open Go.Proofs.Tryz
open Go.RowKit
variable {A B F F' G Φ:PH}{a b i j m n p q r sz x y:Nat}{T e t:TypeId}{w:World}{J:List Nat}{v:Value}{P:Program}{N:Nat->Nat}
def ee (F:WP):Prop:=∀(X Y:Nat->Prop) (w:World) (s:Value),(∀w1,Off X w w1->F w1 s)->(∀w1,Off Y w w1->F w1 s)->∀w1,Off (λk=>X k∨Y k) w w1->F w1 s
def aK (G:PH) (i:Nat) (w:World) (u:Value):Prop:=∃s,u = .agg #[s]∧G i w s
def bh (e:TypeId) (F:PH) (n:Nat) (w:World) (v:Value):Prop:=aA 1 e (λi w u=>∃s,u = .agg #[s]∧∀w2,Off (λk=>blk v=some k) w w2->F i w2 s) n w v
section
variable {X:Nat->Prop}{s:Value}{z0:Value}
theorem mL (hc:∀i w (l:List Value),F i w (.agg l.toArray)->l.length=sz->∃u,l[0]?=some u∧u≠z0∧∀k n,u≠.int k n) (A:∀w1,Off X w w1->Rw sz F n w1 s) (hn:0<n:=by omega):∃g,blk s=some g∧¬X g∧g<w.heap.size:=by
 obtain ⟨p,c,rfl,hc',he⟩:=A w (Off.refl _ _);obtain ⟨b,off,rfl,l,h1,h2,h3⟩:=he 0 hn;obtain ⟨u,hu,hne,hni⟩:=hc _ _ _ h3 h1;have hcl:=h2 0 _ hu;refine ⟨b,rfl,λhX=>?_,World.block_lt_of_cell? _ _ hcl⟩;have hg:w.grownBy (w.setCells b (off+0*sz+0) [z0]) (some b):=jE b _ _ _;have hgr:w.grownBy (w.setCell ⟨b,off+0*sz+0,none⟩ z0) (some b):=hg;have hoff:Off X w (w.setCell ⟨b,off+0*sz+0,none⟩ z0):=by
  refine ⟨⟨hgr.size,λa k n _ ha=>?_⟩,λk hk hn=>hgr.block k hk λe=>?_⟩
  ·rw [World.cell?_setCell_other _ _ _ _ (λe=>by rw [<- e,hcl] at ha;exact hni _ _ (Option.some.inj ha))];exact ha
  ·obtain rfl:k=b:=Option.some.inj e;exact hn hX
 obtain ⟨p',c',e,_,he'⟩:=A _ hoff;obtain ⟨b',off',e2,l',h1',h2',h3'⟩:=he' 0 hn;simp only [Value.slice.injEq] at e;obtain ⟨e1,-,-⟩:=e;rw [e2] at e1;simp only [Option.some.injEq,Addr.mk.injEq] at e1;obtain ⟨rfl,rfl,_⟩:=e1;obtain ⟨u',hu',hne',_⟩:=hc _ _ _ h3' h1';have hc2:=h2' 0 _ hu';rw [World.cell?_setCell_same _ _ _ hcl] at hc2;exact hne' (Option.some.inj hc2).symm
theorem AO (hK:∀i w w1 v,Kp w w1->F i w v->F i w1 v) (hc:∀i w (l:List Value),F i w (.agg l.toArray)->l.length=sz->∃u,l[0]?=some u∧u≠z0∧∀k n,u≠.int k n):ee (Rw sz F n):=λX Y w s hX hY w1 hw=>by refine Rw.own' (hX w (Off.refl _ _)) hK hw.1 λhn g hg=>?_;obtain ⟨g1,e1,x1,l1⟩:=mL (hn:=hn) hc hX;obtain ⟨g2,e2,x2,l2⟩:=mL (hn:=hn) hc hY;rw [hg] at e1 e2;obtain rfl:=Option.some.inj e1;obtain rfl:=Option.some.inj e2;exact hw.2 g l1 λh=>h.elim x1 x2
theorem sf (hS:∀i w s,G i w s->∃p n c,s = .slice p n c) (i:Nat) (w:World) (l:List Value) (h:aK G i w (.agg l.toArray)) (_:l.length=1):∃u,l[0]?=some u∧u≠.bool true∧∀k n,u≠.int k n:=by
 obtain ⟨s,e,h⟩:=h;obtain ⟨p,m,c,rfl⟩:=hS _ _ _ h;obtain rfl:l = [.slice p m c]:=by simpa using e
 exact ⟨_,rfl,λh=>by (cases h),λ_ _ h=>by cases h⟩
theorem MF (hS:∀i w s,G i w s->∃p n c,s = .slice p n c) (hG:∀i,ee (G i)):ee (Rw 1 (aK G) n):=λX Y w s hX hY w1 hw=>by
 have sub:∀{Z:Nat->Prop},(∀w1,Off Z w w1->Rw 1 (aK G) n w1 s)->∀i,i<n->∀(b off:Nat) (u:Value),s = .slice (some ⟨b,off,none⟩) n (match s with | .slice _ _ c=>c | _=>0)->w.cell? ⟨b,off+i*1+0,none⟩=some u->∀w2,Off Z w w2->G i w2 u:=λ{Z} hZ i hi b off u hs hu w2 hw2=>by
  obtain ⟨g,e,x,l⟩:=mL (sf hS) hZ;obtain ⟨p,c,es,_,he⟩:=hZ w2 hw2;obtain ⟨b',off',ep,l',h1,h2,s',e',h3⟩:=he i hi;rw [hs] at es e;simp only [Value.slice.injEq] at es;rw [ep] at es;simp only [Option.some.injEq,Addr.mk.injEq,and_true] at es;obtain ⟨⟨rfl,rfl⟩,-⟩:=es;obtain rfl:=Option.some.inj e;obtain rfl:l' = [s']:=by simpa using e'
  have hc:=h2 0 s' rfl;rw [World.cell?_of_block (hw2.2 b l x),hu] at hc;obtain rfl:=Option.some.inj hc;exact h3
 obtain ⟨p,c,rfl,hc,he⟩:=hX w (Off.refl _ _);refine ⟨p,c,rfl,hc,λi hi=>?_⟩;obtain ⟨b,off,rfl,l,h1,h2,s,e,h3⟩:=he i hi;obtain rfl:l = [s]:=by simpa using e
 obtain ⟨g1,e1,x1,l1⟩:=mL (sf hS) hX;obtain ⟨g2,e2,x2,l2⟩:=mL (sf hS) hY;obtain rfl:=Option.some.inj e1;obtain rfl:=Option.some.inj e2;refine ⟨b,off,rfl,[s],rfl,λj u hj=>?_,s,rfl,hG i X Y w s (sub hX i hi b off s rfl (h2 0 s rfl)) (sub hY i hi b off s rfl (h2 0 s rfl)) w1 hw⟩;rw [World.cell?_of_block (hw.2 b l1 λh=>h.elim x1 x2)];exact h2 j u hj
end
section
theorem bh.rw (h:bh e F n w v):Rw 1 (aK F) n w v:=Rw.to (sz:=1) (aA.rw h) λ_ _ _ _ ⟨s,e,h⟩=>⟨s,e,h _ (Off.refl _ _)⟩
theorem bh.nil (e:TypeId) (F:PH) (w:World):bh e F 0 w (.slice none 0 0):=aA.nil _ _ _ _
theorem bh.is (h:bh e F n w v):(cC.one .s).is v:=by obtain ⟨p,c,rfl,_⟩:=h.rw;exact ⟨⟨_,_,_,rfl⟩,λ_ h=>by cases h⟩
end
theorem jg  (hU:prog.underlying t=some (.slice e)) (hS:∀i w s,F i w s->∃p n c,s = .slice p n c) (hF:∀i,ee (F i))
  (hp:Im Φ p (bh e F n)) (hq:Im Φ q (aK F n)) (hx:Φ x=bh e F (n+1)) (hI:(prog.info? e).map (λi=>(i.zero,i.size,i.bytes))=some (some (.slice none 0 0),1,24):=by kernel_rfl) (hn:n<=1000000:=by omega) :
  aj Φ prog ⟨0,[.fact p,.row 1 [q]],[oS x],.loose [] j 0 (cA t t)⟩:=λX L w ac o ys hX hL hLX hm ha hb hbs=>by
 obtain ⟨i0,hi,hz0,hz1,hz2⟩:=info_parts hI;obtain ⟨y,u,hys⟩:∃y u,ys.map ac.eval = [y,u]:=by
  match ys.map ac.eval,ha with
  | [y,u],_=>exact ⟨y,u,rfl⟩
 rw [show List.map ac.eval ys = [y,u] from hys] at ha hbs;obtain ⟨a,b,ho,rfl,ea,eb⟩:=om hm hys;obtain ⟨h1,⟨g,hu,⟨l,hl,hcells,hl3⟩,-⟩,-⟩:=ha;obtain ⟨-,⟨g2,hu2,⟨l2,hl2,MG,hl4⟩,-⟩,-⟩:=hbs;have hA:∀w1,Off X w w1->bh e F n w1 y:=λw1 hw=>hp _ _ (h1 w1 hw);obtain ⟨rows,r1,r2,r3,r4⟩:=hA w (Off.refl _ _);have hu':u = .slice (some ⟨g,0,none⟩) 1 1:=hu;have vP:u = .slice (some ⟨g2,0,none⟩) 1 1:=hu2;rw [hu'] at vP;simp only [Value.slice.injEq,Option.some.injEq,Addr.mk.injEq,and_true] at vP;obtain rfl:=vP;obtain ⟨s,rfl⟩:∃s,l = [s]:=by
  match l,hl with
  | [s],_=>exact ⟨s,rfl⟩
 obtain ⟨s2,rfl⟩:∃s,l2 = [s]:=by
  match l2,hl2 with
  | [s],_=>exact ⟨s,rfl⟩
 have hss:s=s2:=by have h2:=hcells 0 s rfl;have h3:=MG 0 s2 rfl;rw [h2] at h3;exact Option.some.inj h3
 subst hss;have hC:∀w1,Off (λk=>X k∨L k) w w1->F n w1 s:=λw1 hw=>by
  obtain ⟨s',e',h'⟩:=hq _ _ (hl4 w1 hw);obtain rfl:s=s':=by simpa using e'
  exact h'
 have hsl:∃p n c,s = .slice p n c:=hS _ _ _ (hC w (Off.refl _ _));have hone:∀v,v ∈ [s]->v.oneCell'=true∧dd v:=λv hv=>by obtain rfl:=List.mem_singleton.1 hv;obtain ⟨p,n,c,rfl⟩:=hsl;exact ⟨rfl,λ_ _ _ h=>by cases h⟩
 obtain ⟨v',w',hrn,ho',hg,hbl⟩:=AP t o.type hU hi hz0 hz1 hz2 rfl (by omega) (by omega) (λx hx=>by
  have:x = .slice none 0 0:=by simpa [Value.cells] using hx
  subst this;exact λ_ _ _ h=>by cases h) r3 ⟨g,0,none⟩ 1 [s] hl (λk v hk=>by rw [Addr.add_lit];exact hcells k v hk) (λv hv=>(hone v hv).1) (λv hv=>(hone v hv).2) hn
 have hkp:=r3.kp hg;have hLy:∀m,y.ownBlock=some m->L m:=λm hm'=>hb a m rfl (by rw [ea,fp];exact hm');have hv':∀m,v'.ownBlock=some m->L m∨m=w.heap.size:=λm hm'=>by
  rcases hbl with h | h
  ·exact .inl (hLy m (by rw [<- h];exact hm'))
  ·rw [hm'] at h;exact .inr (Option.some.inj h)
 have hrun:=lp (o:=o) (P:=prog) ho ea (by rw [eb,hu']) hrn;refine ⟨v',w',y.ownBlock,hrun,hg,hLy,hkp,λm k v hm' h4 h5=>?_,λm hm'=>?_,?_⟩
 ·have hbk:=hg.block m (World.block_lt_of_cell? _ _ h4) (λe'=>hm' m e'.symm rfl);refine ⟨by rw [World.cell?_of_block hbk];exact h4,?_⟩;simp only [World.frozen?,hbk] at h5 ⊢;exact h5
 ·rw [fp] at hm';refine ⟨ho'.lt m hm',?_⟩;rcases hv' m hm' with h | h
  ·exact .inl h
  ·exact .inr (by omega)
 ·obtain ⟨p1,n1,c1,rfl⟩:∃p n c,v' = .slice p n c:=by
   rcases ho'.1.2 with ⟨h,-⟩ | ⟨_,_,_,h,-⟩ <;> exact ⟨_,_,_,h⟩
  refine ⟨⟨⟨⟨_,_,_,rfl⟩,λ_ h=>by cases h⟩,λs' hs w1 hw=>?_⟩,trivial⟩;simp only [List.mem_singleton] at hs;subst hs;show Φ x w1 _;rw [hx];have jh:∀w2,Off (λk=>blk (.slice p1 n1 c1)=some k) w1 w2->Off (λk=>X k∨blk y=some k) w w2:=λw2 hw2=>by
   refine ⟨hkp.trans (hw.1.trans hw2.1),λm hm hno=>?_⟩;have e1:w'.heap[m]?=w.heap[m]?:=hg.block m hm λe=>hno (.inr (by rw [fp];exact e.symm▸rfl));have e2:w1.heap[m]?=w'.heap[m]?:=hw.2 m (Nat.lt_of_lt_of_le hm hg.size) λh=>hno (.inl h);have e3:w2.heap[m]?=w1.heap[m]?:=hw2.2 m (Nat.lt_of_lt_of_le (Nat.lt_of_lt_of_le hm hg.size) hw.1.1) λh=>by
    rw [fp] at h;rcases hbl with h' | h'
    ·exact hno (.inr (by rw [fp,<- h'];exact h))
    ·rw [h'] at h;have:=Option.some.inj h;omega
   rw [e3,e2,e1]
  refine ⟨rows ++ [[s]],by simp [r1],λr hr=>?_,?_,λi r hr=>?_⟩
  ·rcases List.mem_append.1 hr with hr | hr
   ·exact r2 r hr
   ·rw [List.mem_singleton.1 hr];rfl
  ·rw [List.flatten_append,List.flatten_singleton];refine ho'.keep λm hm'=>hw.2 m (ho'.lt m hm') λhx'=>?_;rcases hv' m hm' with h | h
   ·exact hLX m h hx'
   ·have:=hX m hx';omega
  ·rw [List.getElem?_append] at hr;split at hr
   ·obtain ⟨s0,e0,hd⟩:=r4 i r hr;refine ⟨s0,e0,λw2 hw2=>hF i X (λk=>blk y=some k) w s0 (λw3 hw3=>?_) hd w2 (jh w2 hw2)⟩;have hi:i<n:=by have:=(List.getElem?_eq_some_iff.1 hr).1;omega
    obtain rfl:r = [s0]:=by simpa using e0
    have h0:aA 1 e (λi _ v=>∃r,rows[i]?=some r∧v = .agg r.toArray) n w y:=⟨rows,r1,r2,r3,λ_ r hr=>⟨r,hr,rfl⟩⟩;obtain ⟨p,c,rfl,-,he⟩:=aA.rw h0;obtain ⟨b,off,rfl,l,g1,g2,r',g3,g4⟩:=he i hi;rw [hr] at g3;obtain rfl:=Option.some.inj g3;obtain rfl:l = [s0]:=by simpa using g4
    obtain ⟨p',c',e5,-,he'⟩:=aA.rw (hA w3 hw3);simp only [Value.slice.injEq,true_and] at e5;obtain ⟨rfl,rfl⟩:=e5;obtain ⟨b',off',e6,l',k1,k2,s3,k3,k4⟩:=he' i hi;simp only [Option.some.injEq,Addr.mk.injEq,and_true] at e6;obtain ⟨rfl,rfl⟩:=e6;obtain rfl:l' = [s3]:=by simpa using k3
    have hc:=g2 0 s0 rfl;have hc':=k2 0 s3 rfl;rw [World.cell?_of_block (hw3.2 b (World.block_lt_of_cell? _ _ hc) (hLX b (hLy b rfl))),hc] at hc';obtain rfl:=Option.some.inj hc';exact k4 w3 (Off.refl _ _)
   ·have hi':i=n:=by
     have:=(List.getElem?_eq_some_iff.1 hr).1;simp at this;omega
    subst hi';rw [r1,Nat.sub_self] at hr;simp at hr;subst hr;refine ⟨s,rfl,λw2 hw2=>hC w2 ?_⟩;exact (jh w2 hw2).wide λm h=>h.imp id λh=>hLy m (by rw [<- fp];exact h)
theorem MH {w2:World}{Z:Nat->Prop}{p:Option Addr}{c off:Nat}{u:Value} (hS:∀i w s,G i w s->∃p n c,s = .slice p n c) (hZ:∀w1,Off Z w w1->Rw 1 (aK G) n w1 (.slice p n c)) (hi:i<n) (hb:p=some ⟨b,off,none⟩) (hu:w.cell? ⟨b,off+i*1+0,none⟩=some u) (hw2:Off Z w w2):G i w2 u:=by
 obtain ⟨g,e,x,l⟩:=mL (sf hS) hZ;obtain ⟨p',c',es,_,he⟩:=hZ w2 hw2;obtain ⟨b',off',ep,l',h1,h2,s',e',h3⟩:=he i hi;subst hb;simp only [Value.slice.injEq,true_and] at es;rw [ep] at es;simp only [Option.some.injEq,Addr.mk.injEq,and_true] at es;obtain ⟨⟨rfl,rfl⟩,-⟩:=es;obtain rfl:=Option.some.inj e;obtain rfl:l' = [s']:=by simpa using e'
 have hc:=h2 0 s' rfl;rw [World.cell?_of_block (hw2.2 b l x),hu] at hc;obtain rfl:=Option.some.inj hc;exact h3
section
variable {w':World}{y:Value}{X:Nat->Prop}
theorem bh.intro {ss:List Value} (h1:ss.length=n) (h2:er 1 e w y n ss) (h3:∀i s,ss[i]?=some s->∀w2,Off (λk=>blk y=some k) w w2->F i w2 s):bh e F n w y:=by
 have hfl:(ss.map λs=>[s]).flatten=ss:=by
  clear h1 h2 h3
  induction ss with
  | nil=>rfl
  | cons s ss ih=>rw [List.map_cons,List.flatten_cons,ih];rfl
 refine ⟨ss.map λs=>[s],by simp [h1],λr hr=>?_,hfl.symm▸h2,λi r hr=>?_⟩
 ·obtain ⟨s,-,rfl⟩:=List.mem_map.1 hr;rfl
 ·rw [List.getElem?_map] at hr;obtain ⟨s,hs,rfl⟩:=Option.map_eq_some_iff.1 hr;exact ⟨s,rfl,h3 i s hs⟩
theorem bh.AQ (h:aA 1 e G 0 w v):bh e F 0 w v:=by obtain ⟨rows,r1,r2,r3,-⟩:=h;obtain rfl:rows = []:=List.eq_nil_of_length_eq_zero r1;exact ⟨[],rfl,r2,r3,λ_ _ hr=>by simp at hr⟩
theorem bh.tell (hF:∀i,ee (F i)) (A:∀w1,Off X w w1->bh e F n w1 y) (hb:∀g,blk y=some g->¬X g) :
  ∃ss:List Value,ss.length=n∧er 1 e w y n ss∧∀i s,ss[i]?=some s->∀w2,Off (λk=>X k∨blk y=some k) w w2->F i w2 s:=by
 obtain ⟨rows,r1,r2,r3,r4⟩:=A w (Off.refl _ _);refine ⟨rows.flatten,by rw [kA r2,r1,Nat.mul_one],r3,λi s hs w2 hw2=>?_⟩;obtain ⟨i',k',r,e1,hr,hk'⟩:=sa (by omega) r2 hs;have hk0:k'=0:=by have h1:=(List.getElem?_eq_some_iff.1 hk').1;rw [r2 r (List.mem_of_getElem? hr)] at h1;omega
 subst hk0;obtain rfl:i'=i:=by omega
 obtain ⟨s0,e0,hd⟩:=r4 i' r hr;obtain rfl:r = [s0]:=by simpa using e0
 obtain rfl:s0=s:=by simpa using hk'
 refine hF i' X (λk=>blk y=some k) w s0 (λw3 hw3=>?_) hd w2 hw2;have hi:i'<n:=by have:=(List.getElem?_eq_some_iff.1 hr).1;omega
 have h0:aA 1 e (λi _ v=>∃r,rows[i]?=some r∧v = .agg r.toArray) n w y:=⟨rows,r1,r2,r3,λ_ r hr=>⟨r,hr,rfl⟩⟩;obtain ⟨p,c,rfl,-,he⟩:=aA.rw h0;obtain ⟨b,off,rfl,l,g1,g2,r',g3,g4⟩:=he i' hi;rw [hr] at g3;obtain rfl:=Option.some.inj g3;obtain rfl:l = [s0]:=by simpa using g4
 obtain ⟨p',c',e5,-,he'⟩:=aA.rw (A w3 hw3);simp only [Value.slice.injEq,true_and] at e5;obtain ⟨rfl,rfl⟩:=e5;obtain ⟨b',off',e6,l',k1,k2,s3,k3,k4⟩:=he' i' hi;simp only [Option.some.injEq,Addr.mk.injEq,and_true] at e6;obtain ⟨rfl,rfl⟩:=e6;obtain rfl:l' = [s3]:=by simpa using k3
 have hc:=g2 0 s0 rfl;have hc':=k2 0 s3 rfl;rw [World.cell?_of_block (hw3.2 b (World.block_lt_of_cell? _ _ hc) (hb b rfl)),hc] at hc';obtain rfl:=Option.some.inj hc';exact k4 w3 (Off.refl _ _)
end
theorem MI  (hU:prog.underlying t=some (.slice e)) (hI:(prog.info? e).map (λi=>(i.zero,i.size,i.bytes))=some (some (.slice none 0 0),1,24)) (hS:∀i w s,G i w s->∃p n c,s = .slice p n c) (hF:∀i,ee (F i))
  (hp:Im Φ p (bh e F n)) (hq:Im Φ q (Rw 1 (aK G) m)) (h1F:∀i w v,i<n->F i w v->F' i w v) (h1G:∀i w v,i<m->G i w v->F' (n+i) w v) (hn:n+m<=1000000) (hx:Φ x=bh e F' (n+m)) :
  aj Φ prog ⟨0,[.fact p,.fact q],[oS x],.loose [] j 0 (cA t t)⟩:=λX L w ac o ys hX hL hLX hm ha hb hbs=>by
 obtain ⟨i0,hi,hz0,hz1,hz2⟩:=info_parts hI;obtain ⟨y,u,hys⟩:∃y u,ys.map ac.eval = [y,u]:=by
  match ys.map ac.eval,ha with
  | [y,u],_=>exact ⟨y,u,rfl⟩
 rw [show List.map ac.eval ys = [y,u] from hys] at ha hbs;obtain ⟨a,b,ho,rfl,ea,eb⟩:=om hm hys;obtain ⟨h1,h2,-⟩:=ha;obtain ⟨-,h3,-⟩:=hbs;have hLy:∀m,y.ownBlock=some m->L m:=λm hm'=>hb a m rfl (by rw [ea,fp];exact hm');obtain ⟨ss,s1,s2,s3⟩:=bh.tell (y:=y) hF (λw1 hw=>hp _ _ (h1 w1 hw)) λg hg=>hLX g (hLy g (by rw [<- fp];exact hg));have hA:∀w1,Off (λk=>X k∨L k) w w1->Rw 1 (aK G) m w1 u:=λw1 hw=>hq _ _ (h3 w1 hw);obtain ⟨p0,c0,hu,hc0,hel⟩:=hA w (Off.refl _ _);rcases Nat.eq_zero_or_pos m with hm0 | hm0
 ·subst hm0;obtain ⟨py,cy,hyv,hcy,-⟩:=(hp _ _ (h1 w (Off.refl _ _))).rw;have hr:=vC (P:=prog) (w:=w) t o.type e i0 hU hi py p0 n cy c0 hcy;have hrun:=lp (o:=o) (P:=prog) ho (by rw [ea,hyv]) (by rw [eb,hu]) hr;refine ⟨.slice py n cy,w,none,hrun,bH w none,(λ_ h=>by cases h),Kp.refl _,(λ_ _ _ _ h4 h5=>⟨h4,h5⟩),λm hm'=>?_,cP ⟨⟨_,_,_,rfl⟩,λ_ h=>by cases h⟩ hx λw1 hw=>?_⟩
  ·rw [fp,<- hyv] at hm';exact ⟨hL m (hLy m hm'),.inl (hLy m hm')⟩
  ·rw [<- hyv];refine bh.intro (ss:=ss) (by omega) (by simpa using s2.keep λm hm'=>hw.2 m (s2.lt m hm') λhx'=>hLX m (hLy m hm') hx') λi s hs w2 hw2=>?_;refine h1F i w2 s (by have:=(List.getElem?_eq_some_iff.1 hs).1;omega) (s3 i s hs w2 ((hw.wide λ_ h=>.inl h).trans hw2 λ_ _ h=>.inr h))
 ·obtain ⟨b0,ko,hp0,-⟩:=hel 0 hm0;subst hp0;obtain ⟨ie,t1,t2⟩:=vH (m:=m) (Q:=λi l=>∃s,l = [s]∧w.cell? ⟨b0,ko+i*1+0,none⟩=some s∧G i w s) λi hi=>by
   obtain ⟨b',off',hbo,l,h3,h4,s,h5,h6⟩:=hel i hi;simp only [Option.some.injEq,Addr.mk.injEq,and_true] at hbo;obtain ⟨rfl,rfl⟩:=hbo;obtain rfl:l = [s]:=by simpa using h5
   exact ⟨[s],s,rfl,h4 0 s rfl,h6⟩
  have kw:∀r,r ∈ ie->r.length=1:=λr hr=>by obtain ⟨i,hi,rfl⟩:=List.getElem_of_mem hr;obtain ⟨s,e1,-⟩:=t2 i _ (List.getElem?_eq_getElem hi);rw [e1];rfl
  have hget:∀(k:Nat) v,ie.flatten[k]?=some v->k<m∧w.cell? ⟨b0,ko+k*1+0,none⟩=some v∧G k w v:=λk v hk=>by
   obtain ⟨i,k',r,rfl,hr,hk'⟩:=sa (by omega) kw hk;obtain ⟨s,rfl,e2,e3⟩:=t2 i r hr;have:k'=0:=by have:=(List.getElem?_eq_some_iff.1 hk').1;simp at this;exact this
   subst this;obtain rfl:s=v:=by simpa using hk'
   rw [Nat.mul_one,Nat.add_zero];exact ⟨by have:=(List.getElem?_eq_some_iff.1 hr).1;omega,e2,e3⟩
  have hcells:∀(k:Nat) v,ie.flatten[k]?=some v->w.cell? (Addr.add ⟨b0,ko,none⟩ k)=some v:=λk v hk=>by
   have:=(hget k v hk).2.1;rw [Addr.add_lit]
   rwa [Nat.mul_one,Nat.add_zero] at this
  have hcs:∀v,v ∈ ie.flatten->v.oneCell'=true∧dd v:=λv hv=>by obtain ⟨k,hk,rfl⟩:=List.getElem_of_mem hv;obtain ⟨p,n,c,e4⟩:=hS _ _ _ (hget k _ (List.getElem?_eq_getElem hk)).2.2;rw [e4];exact ⟨rfl,λ_ _ _ h=>by cases h⟩
  obtain ⟨v',w',hr,ho',hg,hbl⟩:=AG t o.type hU hi hz0 hz1 hz2 rfl (by omega) (by omega) (λx hx=>by
   have:x = .slice none 0 0:=by simpa [Value.cells] using hx
   subst this;exact λ_ _ _ h=>by cases h) s2 ⟨b0,ko,none⟩ m c0 ie.flatten (by rw [kA kw,t1]) hm0 hcells (λv hv=>(hcs v hv).1) (λv hv=>(hcs v hv).2) hn
  have hkp:=s2.kp hg;have hv':∀m,v'.ownBlock=some m->L m∨m=w.heap.size:=λm hm'=>by
   rcases hbl with h | h
   ·exact .inl (hLy m (by rw [<- h];exact hm'))
   ·rw [hm'] at h;exact .inr (Option.some.inj h)
  have hrun:=lp (o:=o) (P:=prog) ho ea (by rw [eb,hu]) hr;refine ⟨v',w',y.ownBlock,hrun,hg,hLy,hkp,λm k v hm' h4 h5=>?_,λm hm'=>?_,?_⟩
  ·have hbk:=hg.block m (World.block_lt_of_cell? _ _ h4) (λe'=>hm' m e'.symm rfl);refine ⟨by rw [World.cell?_of_block hbk];exact h4,?_⟩;simp only [World.frozen?,hbk] at h5 ⊢;exact h5
  ·rw [fp] at hm';refine ⟨ho'.lt m hm',?_⟩;rcases hv' m hm' with h | h
   ·exact .inl h
   ·exact .inr (by omega)
  ·obtain ⟨p1,n1,c1,rfl⟩:∃p n c,v' = .slice p n c:=by
    rcases ho'.1.2 with ⟨h,-⟩ | ⟨_,_,_,h,-⟩ <;> exact ⟨_,_,_,h⟩
   refine cP ⟨⟨_,_,_,rfl⟩,λ_ h=>by cases h⟩ hx λw1 hw=>?_;have jh:∀w2,Off (λk=>blk (.slice p1 n1 c1)=some k) w1 w2->Off (λk=>X k∨blk y=some k) w w2:=λw2 hw2=>by
    refine ⟨hkp.trans (hw.1.trans hw2.1),λm hm hno=>?_⟩;have e1:w'.heap[m]?=w.heap[m]?:=hg.block m hm λe=>hno (.inr (by rw [fp];exact e.symm▸rfl));have e2:w1.heap[m]?=w'.heap[m]?:=hw.2 m (Nat.lt_of_lt_of_le hm hg.size) λh=>hno (.inl h);have e3:w2.heap[m]?=w1.heap[m]?:=hw2.2 m (Nat.lt_of_lt_of_le (Nat.lt_of_lt_of_le hm hg.size) hw.1.1) λh=>by
     rw [fp] at h;rcases hbl with h' | h'
     ·exact hno (.inr (by rw [fp,<- h'];exact h))
     ·rw [h'] at h;have:=Option.some.inj h;omega
    rw [e3,e2,e1]
   have hl2:ie.flatten.length=m:=by rw [kA kw,t1,Nat.mul_one]
   refine bh.intro (ss:=ss ++ ie.flatten) (by rw [List.length_append,s1,hl2]) (ho'.keep λm hm'=>hw.2 m (ho'.lt m hm') λhx'=>?_) λi s hs w2 hw2=>?_
   ·rcases hv' m hm' with h | h
    ·exact hLX m h hx'
    ·have:=hX m hx';omega
   ·rw [List.getElem?_append] at hs;split at hs
    ·rename_i hlt;exact h1F i w2 s (by omega) (s3 i s hs w2 (jh w2 hw2))
    ·rename_i hge;obtain ⟨hk,hc,-⟩:=hget _ s hs;have:=h1G (i-ss.length) w2 s hk (MH hS (λw1 hw=>hu▸hA w1 hw) hk rfl hc ((jh w2 hw2).wide λm h=>h.imp id λh=>hLy m (by rw [<- fp];exact h)));rw [s1,show n+(i-n)=i by omega] at this;exact this
theorem AR {G:WP} (xS xI:Operand) (hS:∀w s,G w s->∃p n c,s = .slice p n c) (hF:∀i,ee (F i)) (hp:Im Φ p (bh e F n)) (hq:Im Φ q (Ni (i:Int))) (hr:Im Φ r G) (hy:Φ y=At 1)
  (hF':∀k w v,k≠i->F k w v->F' k w v) (hG':∀w v,G w v->F' i w v) (hx:Φ x=bh e F' n) (hz:dU prog t=some 1:=by kernel_rfl) (hi:i<n:=by omega) :
  aj Φ prog ⟨0,[.fact p,.fact q,.any,.fact r],[oS x],.ot [] j 0 y (fE t xS xI)⟩:=λX L w ac o xs hX hL hLX hm ha hjt hb hbs=>by
 unfold fE at hm;split at hm
 case h_2=>cases hm
 rename_i t' a b ho;split at hm
 case isFalse=>cases hm
 rename_i ht;subst ht;simp only [Option.some.injEq] at hm;subst hm;have hi2:=hq _ _ (ha.2.1 w (Off.refl _ _));have hval:∀w1,Off (λk=>X k∨L k) w w1->G w1 (ac.eval b):=λw1 hw=>hr _ _ (hbs.2.2.2.1 w1 hw);obtain ⟨pv,nv,cv,hbv⟩:=hS _ _ (hval w (Off.refl _ _));have hAt:=hjt w (Off.refl _ _);rw [hy] at hAt;obtain ⟨g,off,n1,c,k,hAt⟩:=hAt;simp only [List.dropLast_cons_cons,List.dropLast_singleton,List.map_cons,List.map_nil,Value.agg.injEq,Array.mk.injEq,List.cons.injEq,and_true] at hAt;obtain ⟨h1,h2,h3⟩:=hAt;have hk:k=i:=by rw [hi2] at h2;simp only [Value.int.injEq,true_and] at h2;omega
 subst hk;have hLg:L g:=hb xS g rfl (by rw [h1];rfl);obtain ⟨ss,s1,s2,s3⟩:=bh.tell (y:=ac.eval xS) hF (λw1 hw=>hp _ _ (ha.1 w1 hw)) λg' hg'=>by rw [h1] at hg';simp only [blk,Option.some.injEq] at hg';subst hg';exact hLX _ hLg
 rw [h1] at s2 s3;have hoff:off=0∧n1=n:=by
  rcases s2.1.2 with ⟨h',_⟩ | ⟨g',cap',cur',h',_⟩
  ·simp at h'
  ·simp only [Value.slice.injEq,Option.some.injEq,Addr.mk.injEq,and_true] at h';exact ⟨h'.1.2,h'.2.1⟩
 obtain ⟨rfl,rfl⟩:=hoff;rw [Nat.zero_add,Nat.mul_one] at h3;have hcell:∀m,m < [Value.slice pv nv cv].length->(w.cell? ⟨g,k+m,none⟩).isSome=true:=λm hm=>by
  have hm0:m=0:=by simpa using hm
  subst hm0;rw [Nat.add_zero,s2.1.cellAt _ (by omega),List.getElem?_eq_getElem (by rw [s2.1.1];omega)];rfl
 have hrun:=run_storeCells_cells (P:=prog) g k [Value.slice pv nv cv] 0 w (λm hm=>by rw [Nat.add_zero];exact hcell m hm) (λ_ _=>s2.1.frozenAt _) (λ_ hv=>by
  obtain rfl:=List.mem_singleton.1 hv;rfl)
 rw [Nat.add_zero] at hrun;have hst:=er.storeCells [Value.slice pv nv cv] k ss w s2 (λ_ hv=>by
  obtain rfl:=List.mem_singleton.1 hv;exact λ_ _ _ h=>by cases h)
 have hgr:w.grownBy (w.setCells g k [Value.slice pv nv cv]) (some g):=jE g _ _ _;have hkp:Kp w (w.setCells g k [Value.slice pv nv cv]):=s2.kp hgr;refine ⟨w.setCells g k [Value.slice pv nv cv],some g,?_,hgr,λm hm=>Option.some.inj hm▸hLg,hkp,λm q v hm h4 h5=>?_,λx0 hx0=>?_⟩
 ·have e0:Instr.sureAddr (.pointer (some ⟨g,k,none⟩))=pure ⟨g,k,none⟩:=rfl;unfold execOp;simp only [ho,h3,hbv];simp only [Instr.storeAt,e0,storeVar,Value.cells,Sem.run_bind,Sem.run_pure,Result.andThen_ok,run_sizeOf hz];simp [hrun]
 ·have hbk:=hgr.block m (World.block_lt_of_cell? _ _ h4) (λe'=>hm m e'.symm rfl);refine ⟨by rw [World.cell?_of_block hbk];exact h4,?_⟩;simp only [World.frozen?,hbk] at h5 ⊢;exact h5
 ·simp only [List.dropLast_cons_cons,List.getElem?_cons_zero,Option.some.injEq] at hx0;subst hx0;rw [h1];refine cP ⟨⟨_,_,_,rfl⟩,λ_ h=>by cases h⟩ hx λw1 hw=>?_;have jh:∀w2,Off (λk'=>blk (.slice (some ⟨g,0,none⟩) n1 c)=some k') w1 w2->Off (λk'=>X k'∨blk (.slice (some ⟨g,0,none⟩) n1 c)=some k') w w2:=λw2 hw2=>by
   refine ⟨hkp.trans (hw.1.trans hw2.1),λm hm hno=>?_⟩;have hmg:m≠g:=λe=>hno (.inr (by rw [e];rfl));have e1:(w.setCells g k [Value.slice pv nv cv]).heap[m]?=w.heap[m]?:=hgr.block m hm λe=>hmg (Option.some.inj e);have e2:w1.heap[m]?=(w.setCells g k [Value.slice pv nv cv]).heap[m]?:=hw.2 m (Nat.lt_of_lt_of_le hm hgr.size) λh=>hno (.inl h);have e3:w2.heap[m]?=w1.heap[m]?:=hw2.2 m (Nat.lt_of_lt_of_le (Nat.lt_of_lt_of_le hm hgr.size) hw.1.1) λh=>hno (.inr h);rw [e3,e2,e1]
  refine bh.intro (ss:=ss.set k (.slice pv nv cv)) (by rw [List.length_set,s1]) ((show er 1 e _ _ n1 (ss.set k (.slice pv nv cv)) from hst).keep λm hm'=>hw.2 m (hst.lt m hm') λhx'=>?_) λm s hs w2 hw2=>?_
  ·simp only [Value.ownBlock,Option.some.injEq] at hm';subst hm';exact hLX _ hLg hx'
  ·rw [List.getElem?_set] at hs;split at hs
   ·rename_i e';subst e';split at hs
    ·obtain rfl:=Option.some.inj hs;rw [<- hbv];refine hG' _ _ (hval w2 ((jh w2 hw2).wide λm h=>h.imp id λh=>?_));simp only [blk,Option.some.injEq] at h;subst h;exact hLg
    ·cases hs
   ·rename_i e';exact hF' _ _ _ (λh=>e' h.symm) (s3 m s hs w2 (jh w2 hw2))
def pX:Value->Option Nat
 | .pointer (some a)=>some a.block
 | _=>none
def gp (F:WP) (w:World) (v:Value):Prop:=Ptr 1 (λw u=>∃s,u = .agg #[s]∧∀w2,Off (λk=>pX v=some k) w w2->F w2 s) w v
def vQ (F:WP) (w:World) (v:Value):Prop:=∃p s,v = .agg #[p,s]∧∀w2,Off (λk=>pX p=some k) w w2->F w2 s
def vR (F:WP) (w:World) (v:Value):Prop:=∃r i p s,v = .agg #[r,i,p,s]∧∀w2,Off (λk=>blk r=some k) w w2->F w2 s
section
variable {G:WP}
theorem ji  (hT:P.underlying T=some (.slice e)) (hp:Im Φ p (bh e F n)) (hq:Im Φ q (Ni (i:Int))) (hx:Φ x=gp (F i)) (hy:Φ y=At 1) (hz:dU P e=some 1:=by kernel_rfl) (hi:i<n:=by omega) :
  aj Φ P ⟨0,[.fact p,.fact q],[oP x],.joint J y (adK T)⟩:=λX w ac o xs hX hm ha=>by
 unfold adK at hm;split at hm
 case h_2=>cases hm
 rename_i t a b ho;split at hm
 case isFalse=>cases hm
 rename_i ht;subst ht;simp only [Option.some.injEq] at hm;subst hm;obtain ⟨s,c,hv,hc,he⟩:=aA.rw (hp _ _ (ha.1 w (Off.refl _ _)));obtain ⟨g,off,rfl,_⟩:=he i hi;have hi2:=hq _ _ (ha.2.1 w (Off.refl _ _));have hr:(execOp ac.eval o).run P w = .ok (.value (.pointer (some ⟨g,off+i*1,none⟩))) w:=by
  unfold execOp;have h4:¬n<=i:=by omega
  simp [ho,hv,hi2,Instr.indexAt,asIntOf,run_underlying hT,run_sizeOf hz,jH,h4]
 refine ⟨_,w,hr,bH w none,cP ⟨⟨_,rfl⟩,λ_ h=>by cases h⟩ hx λw1 hw=>?_,λw1 _=>?_⟩
 ·obtain ⟨s',c',hv',-,he'⟩:=aA.rw (hp _ _ (ha.1 w1 hw));obtain ⟨b',off',hb,l,h1,h2,s3,h3,h4⟩:=he' i hi;rw [hv] at hv';simp only [Value.slice.injEq,true_and] at hv';rw [hb] at hv';simp only [Option.some.injEq,Addr.mk.injEq,and_true] at hv';obtain ⟨⟨rfl,rfl⟩,-⟩:=hv';refine ⟨g,_,rfl,l,h1,h2,s3,h3,λw2 hw2=>h4 w2 ?_⟩;rw [hv];exact hw2
 ·rw [hy];exact ⟨g,off,n,c,i,by simp [hv,hi2]⟩
theorem MJ  (hS:∀w s,G w s->∃p n c,s = .slice p n c) (hp:Im Φ p (gp G)) (hy:Φ y=vQ G) (hT:gV P T=some false:=by kernel_rfl):aj Φ P ⟨0,[.fact p],[⟨.one .s,[]⟩],.joint J y (aQ T)⟩:=λX w ac o xs hX hm ha=>by
 unfold aQ at hm;split at hm
 case h_2=>cases hm
 rename_i t a ho;split at hm
 case isFalse=>cases hm
 rename_i ht;subst ht;simp only [Option.some.injEq] at hm;subst hm;have A:∀w1,Off X w w1->gp G w1 (ac.eval a):=λw1 hw=>hp _ _ (ha.1 w1 hw);obtain ⟨b,off,u,hv,hX',hc⟩:=vM (F:=λw u=>∃s,u = .agg #[s]∧G w s) (λw1 hw=>by
  obtain ⟨b,off,hv,l,h1,h2,s,h3,h4⟩:=A w1 hw;exact ⟨b,off,hv,l,h1,h2,s,h3,h4 w1 (Off.refl _ _)⟩) (λw u ⟨s,e,hs⟩=>by
  obtain rfl:u=s:=by simpa using e
  exact hS w u hs)
 have key:∀w1,Off X w w1->∀w2,Off (λk=>pX (ac.eval a)=some k) w1 w2->G w2 u:=λw1 hw=>by
  obtain ⟨b',o',e,l',h1',h2',s,h3',h4⟩:=A w1 hw;rw [hv] at e;simp only [Value.pointer.injEq,Option.some.injEq,Addr.mk.injEq] at e;obtain ⟨rfl,rfl,_⟩:=e;obtain rfl:l' = [s]:=by simpa using h3'
  have hc':=h2' 0 s rfl;rw [Nat.add_zero,World.cell?_of_block (hw.2 b (World.block_lt_of_cell? _ _ hc) hX'),hc] at hc';obtain rfl:=Option.some.inj hc';exact h4
 obtain ⟨p',n',c',rfl⟩:=hS _ _ (key w (Off.refl _ _) w (Off.refl _ _));refine ⟨.slice p' n' c',w,?_,bH w none,⟨⟨⟨⟨_,_,_,rfl⟩,λ_ h=>by cases h⟩,λ_ hr=>by cases hr⟩,trivial⟩,λw1 hw=>?_⟩
 ·unfold execOp;simp [ho,hv,Instr.loadAt,Instr.sureAddr,loadVar,gW hT,hc]
 ·rw [hy];exact ⟨ac.eval a,_,by simp,key w1 hw⟩
theorem MK (hp:Φ p=At 1) (hq:Φ q=vQ G) (hx:Φ x=vR G) (X:Nat->Prop) (w:World) (v:Value) (h:(Arg.parts (.agg [.s,.i,.p,.s]) [(0,3,p),(2,2,q)]).ok Φ X w v):(Arg.fact x).ok Φ X w v:=λw1 hw=>by
 obtain ⟨⟨vs,rfl,hvs⟩,hf⟩:=h
 match vs,hvs with
 | [r,i,p',s],_=>
  have h1:=hf (0,3,p) (by simp) w1 hw;have h2:=hf (2,2,q) (by simp) w1 hw;rw [hp] at h1;rw [hq] at h2;rw [hx];obtain ⟨b,off,n,c,k,e1⟩:=h1;obtain ⟨p2,s2,e2,h2⟩:=h2;simp [bS,cellsOf,Value.cells] at e1 e2;obtain ⟨rfl,rfl,rfl⟩:=e1;obtain ⟨rfl,rfl⟩:=e2;exact ⟨_,_,_,_,rfl,h2⟩
theorem ML (hG:ee G) (hq:Φ q=vR G) (hx:∀w v,G w v->Φ x w v) (X:Nat->Prop) (w:World) (v i p s:Value) (h:∀w1,Off X w w1->Φ q w1 (.agg #[v,i,p,s])):∀w1,Off (λk=>X k∨blk v=some k) w w1->Φ x w1 s:=λw1 hw=>by
 have A:∀w1,Off X w w1->∀w2,Off (λk=>blk v=some k) w1 w2->G w2 s:=λw1 hw=>by have:=h w1 hw;rw [hq] at this;obtain ⟨r',i',p',s',e,h⟩:=this;simp only [Value.agg.injEq,Array.mk.injEq,List.cons.injEq,and_true] at e;obtain ⟨rfl,rfl,rfl,rfl⟩:=e;exact h
 exact hx _ _ (hG X (λk=>blk v=some k) w s (λw1 hw=>A w1 hw w1 (Off.refl _ _)) (A w (Off.refl _ _)) w1 hw)
end
theorem bh.to  (h:bh e F n w v) (hf:∀i w v,i<n->F i w v->G i w v):bh e G n w v:=
 aA.to (sz:=1) (n:=n) h λi _ _ hi ⟨s,e,h⟩=>⟨s,e,λw2 hw2=>hf i w2 s hi (h w2 hw2)⟩
def pZ (T:TypeId):Op->Option (List Operand)
 | .slice t x (some l) none none=>if t=T then some [x,l] else none
 | _=>none
theorem MM {o:Op}{xs:List Operand} (h:pZ T o=some xs):∃y z,o = .slice T y (some z) none none∧xs = [y,z]:=by
 unfold pZ at h;split at h
 case h_2=>cases h
 rename_i t y z;split at h
 case isFalse=>cases h
 rename_i ht;subst ht;simp only [Option.some.injEq] at h;exact ⟨y,z,rfl,h.symm⟩
theorem AS  (hT:P.underlying T=some (.slice e)) (hp:Im Φ p (Rw sz F n)) (hq:Im Φ q (Ni (m:Int))) (hx:Φ x=Rw sz (λi=>F (m+i)) (n-m)) (hz:dU P e=some sz:=by kernel_rfl) (hm':m<=n:=by omega):aj Φ P ⟨0,[.fact p,.fact q],[oS x],.quiet (pZ T)⟩:=λX w ac o xs _ hm ha=>by
 obtain ⟨y,z,ho,rfl⟩:=MM hm;obtain ⟨s,c,hv,hc,he⟩:=hp _ _ (ha.1 w (Off.refl _ _));have hi2:=hq _ _ (ha.2.1 w (Off.refl _ _));refine ⟨.slice (if c=m then s else s.map (·.add (m*sz))) (n-m) (c-m),w,?_,bH w none,cP ⟨⟨_,_,_,rfl⟩,λ_ h=>by cases h⟩ hx λw1 hw=>?_⟩
 ·unfold execOp;simp only [ho,Option.map_none,Option.map_some,hv,hi2];simp [Instr.sliceAt,Instr.slice,run_underlying hT,Instr.sliceBounds,run_sliceBound (P:=P) w .i64 (m:Int) n .sliceB (by omega) (by omega),run_sizeOf hz]
 ·obtain ⟨s',c',hv',hc',he'⟩:=hp _ _ (ha.1 w1 hw);rw [hv] at hv';simp only [Value.slice.injEq,true_and] at hv';obtain ⟨rfl,rfl⟩:=hv';refine ⟨_,_,rfl,by omega,λi hi=>?_⟩;obtain ⟨b,off,rfl,l,h1,h2,h3⟩:=he' (m+i) (by omega);refine ⟨b,off+m*sz,?_,l,h1,λj u hj=>?_,h3⟩
  ·rw [if_neg (by omega),Option.map_some,Addr.add_lit]
  ·rw [show off+m*sz+i*sz+j=off+(m+i)*sz+j by rw [Nat.add_mul];omega];exact h2 j u hj
def two (A B:PH) (a b:Nat) (c:Nat):WP:=Rw 1 (aK (if c=0 then A else B)) (if c=0 then a else b)
theorem si  (h:Rw sz F n w v):v.cells = #[v]:=by obtain ⟨p,c,rfl,_⟩:=h;rfl
theorem AT {zc:C} (hT:prog.underlying T=some (.slice e)) (hp:Im Φ p (Rw 1 (aK A) a)) (hq:Im Φ q (Rw 1 (aK B) b)) (hx:Φ x=Rw 1 (aK (two A B a b)) 2) (hz:dU prog e=some 1:=by kernel_rfl) (h0:zeroAt prog e=some zc:=by kernel_rfl) :
  aj Φ prog ⟨0,[.any,.fact p,.fact q],[oS x],.fresh J (dl T 2)⟩:=
 fM (ps:=[p,q]) (sz:=1) hT (hz:=hz) (h0:=h0) rfl (λi _ h w v hv=>by
  match i,h with
  | 0,h=>
   obtain rfl:=Option.some.inj h;exact ⟨by rw [si (hp w v hv)];rfl,v,by rw [si (hp w v hv)],hp w v hv⟩
  | 1,h=>
   obtain rfl:=Option.some.inj h;exact ⟨by rw [si (hq w v hv)];rfl,v,by rw [si (hq w v hv)],hq w v hv⟩
  | i+2,h=>simp at h) hx
theorem MN  (hU:prog.underlying t=some (.slice e)) (hp:Im Φ p (Ni (n:Int))) (hx:Φ x=λw v=>bh e (λ_ _ v=>v = .slice none 0 0) n w v) (hI:(prog.info? e).map (λi=>(i.zero,i.size,i.bytes))=some (some (.slice none 0 0),1,24):=by kernel_rfl) (hn:n<=1000000:=by omega) :
  aj Φ prog ⟨0,[.fact p,.fact p],[oS x],.loose [] j 0 (ga t)⟩:=λX L w ac o xs hX hL hLX hm ha hb hbs=>by
 obtain ⟨i0,hi,hz0,hz1,hz2⟩:=info_parts hI;have key:aj (λy w v=>y≠n+x+p+1∧Φ y w v∨y=n+x+p+1∧aA 1 e (λ_ _ u=>u = .agg #[.slice none 0 0]) n w v) prog ⟨0,[.fact p,.fact p],[⟨.one .s,[(0,0,n+x+p+1)]⟩],.loose [] j 0 (ga t)⟩:=
  vD (F:=λ_ _ u=>u = .agg #[.slice none 0 0]) hU hi hz0 hz1 hz2 rfl (λu hu=>by
   have:u = .slice none 0 0:=by simpa [Value.cells] using hu
   subst this;exact λ_ _ _ h=>by cases h) (λw v h=>by
    rcases h with h | h
    ·exact hp w v h.2
    ·omega) hn (λ_ _=>rfl) (by funext w v;simp)
 have hA:∀{Y:Nat->Prop}{v:Value},(Arg.fact p).ok Φ Y w v->(Arg.fact p).ok (λy w v=>y≠n+x+p+1∧Φ y w v∨y=n+x+p+1∧aA 1 e (λ_ _ u=>u = .agg #[.slice none 0 0]) n w v) Y w v:=λh w1 hw=>.inl ⟨by omega,h w1 hw⟩;obtain ⟨y,u,hys⟩:∃y u,xs.map ac.eval = [y,u]:=by
  match xs.map ac.eval,ha with
  | [y,u],_=>exact ⟨y,u,rfl⟩
 rw [show List.map ac.eval xs = [y,u] from hys] at ha hbs;obtain ⟨u',w',r,g1,g2,g3,g4,g5,g6,⟨g7,g8⟩,-⟩:=key X L w ac o xs hX hL hLX hm (by
  show cX _ _ _ _ (List.map ac.eval xs);rw [hys];exact ⟨hA ha.1,hA ha.2.1,trivial⟩) hb (by
  show cX _ _ _ _ (List.map ac.eval xs);rw [hys];exact ⟨trivial,hA hbs.2.1,trivial⟩)
 refine ⟨u',w',r,g1,g2,g3,g4,g5,g6,cP g7 hx λw1 hw=>?_⟩;rcases g8 (0,0,n+x+p+1) (List.mem_singleton.2 rfl) w1 hw with h | h
 ·exact absurd rfl h.1
 ·exact aA.to (sz:=1) (n:=n) h.2 λ_ _ _ _ h=>⟨_,h,λ_ _=>rfl⟩
theorem AU  (hU:prog.underlying t=some (.slice e)) (hq:Im Φ q (Ni (n:Int))) (hx:Φ x=oo 1 e) (hI:(prog.info? e).map (λi=>(i.zero,i.size,i.bytes))=some (some (.slice none 0 0),1,24):=by kernel_rfl) (h0:0<n:=by omega) (hn:n<=1000000:=by omega):aj Φ prog ⟨0,[.lit .nl,.fact q],[oS x],.loose [] j 0 (cA t 3)⟩:=λX L w ac o ys hX hL hLX hm ha hb _=>by
 obtain ⟨y,u,hys⟩:∃y u,ys.map ac.eval = [y,u]:=by
  match ys.map ac.eval,ha with
  | [y,u],_=>exact ⟨y,u,rfl⟩
 rw [show List.map ac.eval ys = [y,u] from hys] at ha;obtain ⟨a,b,ho,rfl,ea,eb⟩:=om hm hys;have hy:y = .slice none 0 0:=ha.1;have hu:=hq _ _ (ha.2.1 w (Off.refl _ _));obtain ⟨i0,hi,hz0,hz1,hz2⟩:=info_parts hI;have hcm:grownCap w (0+n) 0 e<=maxLen:=grownCap_le_maxLen w (0+n) 0 e (by simp only [maxLen];omega);have hge:=grownCap_ge w (0+n) 0 e;have hr:=Lib.run_append_grow_zeros (P:=prog) w t 3 o.type e i0 _ .i64 .i64 hU underlying3 hi hz0 none 0 0 [] (by simp [Builtin.firstCells]) n h0 (by rw [hz1];omega) (by omega) (by omega) (by rw [hz2];omega) (growslice_fits (by omega) (by rw [hz2];omega));have hrun:=lp (o:=o) (P:=prog) ho (by rw [ea,hy]) (by rw [eb,hu]) hr;have hgr:∀b,w.grownBy (w.drew.alloc b) none:=λb=>⟨rfl,rfl,rfl,(World.grownBy_alloc w.drew b none).size,(World.grownBy_alloc w.drew b none).block⟩;have nn:∀u:Value,u ∈ (Value.slice none 0 0).cells.toList->dd u:=λu hu=>by
  have:u = .slice none 0 0:=by simpa [Value.cells] using hu
  subst this;exact λ_ _ _ h=>by cases h
 refine ⟨_,_,none,hrun,hgr _,(λ_ h=>by cases h),Kp.of (hgr _),(λ_ _ _ _ h4 h5=>⟨cell_grown (hgr _) h4,gX (hgr _) h4 h5⟩),λm hm'=>?_,cP ⟨⟨_,_,_,rfl⟩,λ_ h=>by cases h⟩ hx λw1 hw=>?_⟩
 ·simp only [blk,Option.some.injEq] at hm';subst hm';exact ⟨by simp,.inr (Nat.le_refl _)⟩
 ·refine ⟨w.heap.size,_,_,_,rfl,(hw.2 w.heap.size (by simp) (λh=>by have:=hX _ h;omega)).trans (heap_alloc_new w.drew _),hcm,?_,λu hu=>?_⟩
  ·simp only [Array.size_append,List.size_toArray,List.length_nil,size_zeroCells,Nat.zero_add] at hge ⊢;rw [show (Value.slice none 0 0).cells.size=1 from rfl];omega
  ·simp only [Array.toList_append,List.mem_append] at hu;rcases hu with (hu | hu) | hu
   ·simp at hu
   ·exact lm nn (by decide) _ u hu
   ·exact lm nn (by decide) _ u hu
def cV (N:Nat->Nat):Nat->Nat
 | 0=>0
 | j+1=>cV N j+N j
def eN (F:Nat->PH) (N:Nat->Nat):Nat->PH
 | 0,_=>λ_ _=>False
 | j+1,i=>if i<cV N j then eN F N j i else F j (i-cV N j)
theorem AV {F:Nat->PH}{N:Nat->Nat} (hF:∀c i,ee (F c i)):∀j i,ee (eN F N j i)
 | 0,_=>λ_ _ w _ hX _ _ _=>(hX w (Off.refl _ _)).elim
 | j+1,i=>by
  rw [eN];split
  ·exact AV hF j i
  ·exact hF _ _
theorem AW {F:Nat->PH} (hU:prog.underlying t=some (.slice e)) (hS:∀c i w s,F c i w s->∃p n c,s = .slice p n c) (hF:∀c i,ee (F c i)) (hn:cV N (i+1)<=1000000) (hp:Im Φ p (bh e (eN F N i) (cV N i))) (hq:Im Φ q (Rw 1 (aK (F i)) (N i))) (hx:Φ x=bh e (eN F N (i+1)) (cV N (i+1))) (hI:(prog.info? e).map (λi=>(i.zero,i.size,i.bytes))=some (some (.slice none 0 0),1,24):=by kernel_rfl):aj Φ prog ⟨0,[.fact p,.fact q],[oS x],.loose [] j 0 (cA t t)⟩:=
 MI (F':=eN F N (i+1)) hU hI (hS i) (AV hF i) hp hq (λ_ _ _ hι h=>by rw [eN,if_pos hι];exact h) (λ_ _ _ _ h=>by rw [eN,if_neg (by omega),Nat.add_sub_cancel_left];exact h) hn hx
theorem qa  (hp:Im Φ p (bh e F n)) (hq:Φ q=fb n):∀(w w':World) (v:Value),Φ p w v->Φ q w' v:=λw _ v h=>by rw [hq];obtain ⟨p,c,rfl,_⟩:=(hp w v h).rw;exact ⟨p,c,rfl⟩
def FB (A G:PH) (r i:Nat):WP:=if i<r then G i else A i
theorem adO  (hA:∀i,ee (A i)) (hG:∀i,ee (G i)) (r i:Nat):ee (FB A G r i):=by
 unfold FB;split
 ·exact hG i
 ·exact hA i
theorem AX  (h:FB A G r r w v):A r w v:=by
 unfold FB at h
 rwa [if_neg (Nat.lt_irrefl r)] at h
theorem AY  (h:G r w v):FB A G (r+1) r w v:=by
 unfold FB
 rwa [if_pos (Nat.lt_succ_self r)]
theorem Ba {k:Nat} (hk:k≠r) (h:FB A G r k w v):FB A G (r+1) k w v:=by
 unfold FB at h ⊢;split
 ·rwa [if_pos (by omega)] at h
 ·rwa [if_neg (by omega)] at h
theorem Bb  (h:bh e A n w v):bh e (FB A G 0) n w v:=h.to λi _ _ _ _=>by
 unfold FB
 rwa [if_neg (Nat.not_lt_zero i)]
theorem Bc  (h:bh e (FB A G n) n w v):bh e G n w v:=h.to λ_ _ _ hi h=>by
 unfold FB at h
 rwa [if_pos hi] at h
def jI (T:TypeId) (xS xI:Operand):Op->Option (List Operand)
 | .load t x=>if t=T then some [xS,xI,x] else none
 | _=>none
theorem lw {G:WP} (xS xI:Operand) (hU:ee G) (hS:∀w s,G w s->∃p n c,s = .slice p n c) (hp:Im Φ p (gp G)) (hy:Φ y=At 1) (hx:Φ x=G) (hT:gV P T=some false:=by kernel_rfl):aj Φ P ⟨0,[.any,.any,.fact p],[oS x],.iK [] j 0 y (jI T xS xI)⟩:=λX w ac o xs hX hm ha hjt=>by
 unfold jI at hm;split at hm
 case h_2=>cases hm
 rename_i t a ho;split at hm
 case isFalse=>cases hm
 rename_i ht;subst ht;simp only [Option.some.injEq] at hm;subst hm;have A:∀w1,Off X w w1->gp G w1 (ac.eval a):=λw1 hw=>hp _ _ (ha.2.2.1 w1 hw);obtain ⟨b,off,u,hv,hX',hc⟩:=vM (F:=λw u=>∃s,u = .agg #[s]∧G w s) (λw1 hw=>by
  obtain ⟨b,off,hv,l,h1,h2,s,h3,h4⟩:=A w1 hw;exact ⟨b,off,hv,l,h1,h2,s,h3,h4 w1 (Off.refl _ _)⟩) (λw u ⟨s,e,hs⟩=>by
  obtain rfl:u=s:=by simpa using e
  exact hS w u hs)
 have key:∀w1,Off X w w1->∀w2,Off (λk=>pX (ac.eval a)=some k) w1 w2->G w2 u:=λw1 hw=>by
  obtain ⟨b',o',e,l',h1',h2',s,h3',h4⟩:=A w1 hw;rw [hv] at e;simp only [Value.pointer.injEq,Option.some.injEq,Addr.mk.injEq] at e;obtain ⟨rfl,rfl,_⟩:=e;obtain rfl:l' = [s]:=by simpa using h3'
  have hc':=h2' 0 s rfl;rw [Nat.add_zero,World.cell?_of_block (hw.2 b (World.block_lt_of_cell? _ _ hc) hX'),hc] at hc';obtain rfl:=Option.some.inj hc';exact h4
 obtain ⟨p',n',c',rfl⟩:=hS _ _ (key w (Off.refl _ _) w (Off.refl _ _));refine ⟨.slice p' n' c',w,?_,bH w none,λx0 hx0=>?_⟩
 ·unfold execOp;simp [ho,hv,Instr.loadAt,Instr.sureAddr,loadVar,gW hT,hc]
 ·simp only [List.getElem?_cons_zero,Option.some.injEq] at hx0;subst hx0;refine cP ⟨⟨_,_,_,rfl⟩,λ_ h=>by cases h⟩ hx λw1 hw=>?_;have hAt:=hjt w (Off.refl _ _);rw [hy] at hAt;obtain ⟨g,jh,n1,c,k,hAt⟩:=hAt;simp only [List.map_cons,List.map_nil,Value.agg.injEq,Array.mk.injEq,List.cons.injEq,and_true] at hAt;obtain ⟨h1,-,h3⟩:=hAt;have hb:pX (ac.eval a)=blk (ac.eval xS):=by rw [h1,h3];rfl
  exact hU X (λk=>blk (ac.eval xS)=some k) w _ (λw1 hw=>key w1 hw w1 (Off.refl _ _)) (λw2 hw2=>key w (Off.refl _ _) w2 (by rw [hb];exact hw2)) w1 hw
def MO (n:Nat):List WP:=[Nz n,Nz n,oo 1 110,aA 1 110 (λ_ _ _=>False) 0]
def MP:List Step:=[bQ [0,.lit (Ai 0)] oF (am .lss),bQ [.lit .nl] [oL (Ai 0)] (jf 109),bQ [.lit .nl] [oL (Ai 0)] (aC 109),bQ [0,.lit (Ai 0)] [oN 1] (am .sub),bQ [1,.lit (Ai 0)] oT (am .gtr),bQ [.lit .nl] [oL (Ai 0)] (jf 109),bQ [.lit .nl,.lit (Ai 0)] [⟨.one (.lit (.nl)),[]⟩] (eL 109),.base ⟨0,[.lit .nl,1],[oS 2],.loose [] 1 0 (cA 109 3)⟩,bQ [.lit .nl] [oL (Ai 0)] (aC 109),.base ⟨0,[2,.lit (Ai 0)],[oS 3],.loose [] 1 0 (eL 109)⟩]
def MQ:List Out:=[⟨.one (.lit (.nl)),[]⟩,oN 0]
theorem MR  (hn:n<=1000000) (h0:0<n):eT (ph (MO n)) prog ⟨175,[.lit (.nl),0],[oS 3],false⟩:=iJ MQ [oS 3] MP func175 (by kernel_rfl) (lB (cn (op:=.lss) ad (bz (show decide (((n:Nat):Int)<0)=false from decide_eq_false (by omega)) (by simp))) (lB (kB underlying109) (lB (kC underlying109) (lB (cO ad rfl) (lB (gG ad) (lB (kB underlying109) (lB (vN (sz:=1) underlying109) (lB (AU underlying109 ad rfl) (lB (kC underlying109) (lB (vO (F:=(λ_ _ _=>False)) underlying109 ad rfl) au))))))))))
  (aP [.lit (.nl),.fact 0 (.one (.i))] ⟨(λ_ h=>by cases h),λ_ _ h=>h▸cY _,trivial⟩) (λ_ _ _ h=>h)
def MS (n:Nat):List WP:=[Nz n,Nz n]
def MT:List Step:=[bQ [0,.lit (Ai 0)] oF (am .lss),bQ [.lit .nl] [oL (Ai 0)] (jf 109),bQ [.lit .nl] [oL (Ai 0)] (aC 109),bQ [0,.lit (Ai 0)] [oN 1] (am .sub),bQ [1,.lit (Ai 0)] oF (am .gtr)]
def MU:List Out:=[⟨.one (.lit (.nl)),[]⟩,oN 0]
theorem MV  (h0:n=0):aj (ph (MS n)) prog ⟨175,[.lit (.nl),0],[⟨.one (.lit (.nl)),[]⟩],false⟩:=adL MU [⟨.one (.lit (.nl)),[]⟩] MT func175 (by kernel_rfl) (lB (cn (op:=.lss) ad (bz (show decide (((n:Nat):Int)<0)=false from decide_eq_false (by omega)) (by simp))) (lB (kB underlying109) (lB (kC underlying109) (lB (cO ad rfl) (lB (lu ad) au)))))
  (aP [.lit (.nl),.fact 0 (.one (.i))] ⟨(λ_ h=>by cases h),λ_ _ h=>h▸cY _,trivial⟩) (λ_ _ _ h=>h)
theorem MW  (hq:Im Φ q (Ni (n:Int))) (hx:Φ x=bh 110 F 0) (hn:n<=1000000:=by omega):aj Φ prog ⟨175,[.lit .nl,.fact q],[oS x],.eM J j⟩:=by
 rcases Nat.eq_zero_or_pos n with h | h
 ·intro X w vs hX ha;refine (aU (outs:=[⟨.one (.lit .nl),[]⟩]) (Φ:=Φ) (ar:=[.lit .nl,.fact q]) (MV (n:=n) h) ⟨rfl,hq,trivial⟩ ⟨⟨rfl,trivial⟩,trivial⟩ X w vs hX ha).mono λe w' ⟨hg,us,he,h2⟩=>?_
  match us,h2 with
  | [u],h2=>
   have e':u = .slice none 0 0:=h2.1.1.1;subst e';exact ⟨hg,_,he,cP ⟨⟨_,_,_,rfl⟩,λ_ h=>by cases h⟩ hx λ_ _=>bh.nil _ _ _,λ_ hg'=>by cases hg'⟩
 ·exact jF (MR (n:=n) hn h) ⟨rfl,hq,trivial⟩ ⟨⟨rfl,⟨rfl,rfl,λ_ _ h=>by
   rw [hx];exact bh.AQ (G:=λ_ _ _=>False) h⟩,trivial⟩,trivial⟩
def qb (F:Nat->PH) (N:Nat->Nat) (n:Nat):List WP:=[Rw 1 (aK (λc=>Rw 1 (aK (F c)) (N c))) n,Nz n,Nz ((cV N n)),bh 110 (eN F N 0) (cV N 0),Nz n,bh 110 (eN F N n) (cV N n)]
def MZ (F:Nat->PH) (N:Nat->Nat) (j:Nat):List WP:=[Nz j,bh 110 (eN F N j) (cV N j),λ_ _=>True,Ptr 1 (aK (λc=>Rw 1 (aK (F c)) (N c)) j),Rw 1 (aK (F j)) (N j),bh 110 (eN F N (j+1)) (cV N (j+1)),Nz (j+1)]
def Be:bp:=⟨[0,2,3,9,10,11,12,23,24,25,26],[(.slot 27,.i),(.slot 6,.s)],[(.one 0,6),(.one 1,.cM [1] 7),(.one 1,.lo 1)],[.closed (.one (Ai 0)),.frm 3,.frm 0],6,[(7,5)]⟩
def Bf:List Step:=[bQ [6,4] oT (am .lss),bQ [0,6] [oP 9] (adK 198),bQ [9] [oS 10] (aQ 109),.base ⟨0,[7,10],[oS 11],.loose [] 1 0 (cA 109 109)⟩,bQ [6,.lit (Ai 1)] [oN 12] (am .add)]
def Nc:List Step:=[bQ [6,4] oF (am .lss)]
def Nd (F:Nat->PH) (N:Nat->Nat) (j:Nat):List WP:=[Nz j,Nz ((cV N j)),Ptr 1 (aK (λc=>Rw 1 (aK (F c)) (N c)) j),Rw 1 (aK (F j)) (N j),Nz (N j),Nz ((cV N (j+1))),Nz (j+1)]
def Bg:bp:=⟨[0,2,9,10],[(.slot 11,.i),(.slot 3,.i)],[(.one 0,6),(.one 1,7)],[.closed (.one (Ai 0)),.closed (.one (Ai 0))],6,[(7,2)]⟩
def Bh:List Step:=[bQ [6,1] oT (am .lss),bQ [0,6] [oP 8] (adK 198),bQ [8] [oS 9] (aQ 109),bQ [9] [oN 10] (aC 109),bQ [7,10] [oN 11] (am .add),bQ [11,.lit (Ai 0)] oF (am .lss),bQ [6,.lit (Ai 1)] [oN 12] (am .add)]
def Ng:List Step:=[bQ [6,1] oF (am .lss)]
def Nh:List Step:=[bQ [0] [oN 1] (aC 198),.loop Bg [(Bh,[.frm 12,.frm 11])] Ng,.base ⟨175,[.lit .nl,2],[oS 3],.eM [] 1⟩,bQ [0] [oN 4] (aC 198),.loop Be [(Bf,[.frm 12,.frm 11,.frm 0])] Nc]
def Nj:List Out:=[oS 0]
theorem Nk {F:Nat->PH} (hs:∀j,j<=n->cV N j<=1000000) (hS:∀c i w s,F c i w s->∃p n c,s = .slice p n c) (hF:∀c i,ee (F c i)) (hn:n<=1000:=by omega):eT (ph (qb F N n)) prog ⟨164,[0],[oS 5],false⟩:=by
 have hsn:=hs n (Nat.le_refl n);exact iJ Nj [oS 5] Nh func164 (by kernel_rfl) (lB (aM (F:=(aK (λc=>Rw 1 (aK (F c)) (N c)))) underlying198 ad rfl) (bN (counted n (λj=>ph (qb F N n ++ Nd F N j)) (λ_=>0) (λ_ p hp=>bO (show p<(qb F N n).length from hp)) ⟨λ_=>rfl,λ_=>rfl,trivial⟩ (λj _=>by
   have hs1:=hs (j+1) (by omega);have hs0:=hs j (by omega);exact ⟨(Bh,[.frm 12,.frm 11]),rfl,⟨ad,ad,trivial⟩,(lB (bK ad ad) (lB (bw (i:=j) (F:=(aK (λc=>Rw 1 (aK (F c)) (N c)))) underlying198 ad ad rfl) (lB (iH (G:=Rw 1 (aK (F j)) (N j)) ad (λ_ _ h=>fD h) rfl) (lB (aM (F:=(aK (F j))) underlying109 ad rfl) (lB (jG ad ad (hc:=(by rw [cV];omega)) rfl) (lB (cn (op:=.lss) ad (bz (show decide (((((cV N (j+1))):Nat):Int)<0)=false from decide_eq_false (by omega)) (by simp))) (lB (ch ad rfl) au)))))))⟩) (lB (tlF ad ad) au)
   (poC (λ_ _ h=>(λh=>h) h) poN)) (lB (MW (F:=eN F N 0) ad rfl) (lB (aM (F:=(aK (λc=>Rw 1 (aK (F c)) (N c)))) underlying198 ad rfl) (bN (counted n (λj=>ph (qb F N n ++ MZ F N j)) (λ_=>0) (λ_ p hp=>bO (show p<(qb F N n).length from hp)) ⟨λ_=>rfl,ad,bI,trivial⟩ (λj _=>by
   skip
   exact ⟨(Bf,[.frm 12,.frm 11,.frm 0]),rfl,⟨ad,ad,bI,trivial⟩,(lB (bK ad ad) (lB (bw (i:=j) (F:=(aK (λc=>Rw 1 (aK (F c)) (N c)))) underlying198 ad ad rfl) (lB (iH (G:=Rw 1 (aK (F j)) (N j)) ad (λ_ _ h=>fD h) rfl) (lB (AW (i:=j) underlying109 hS hF (hs (j+1) (by omega)) ad ad rfl) (lB (ch ad rfl) au)))))⟩) (lB (tlF ad ad) au)
   (poC (λ_ _ h=>(λh=>h) h) poN)) au)))))
  (aP [.fact 0 (.one (.s))] ⟨Rw.Is 1 (aK (λc=>Rw 1 (aK (F c)) (N c))) n,trivial⟩) aV
theorem Nl {m:Nat}{C:PH} (hp:Im Φ p (Rw 1 (aK (two A B a b)) 2)) (hx:Φ x=bh 110 C m) (hA:∀i w s,A i w s->∃p n c,s = .slice p n c) (hB:∀i w s,B i w s->∃p n c,s = .slice p n c) (uA:∀i,ee (A i)) (uB:∀i,ee (B i)) (hAC:∀i w v,i<a->A i w v->C i w v) (hBC:∀i w v,i<b->B i w v->C (a+i) w v) (hm:a+b=m:=by omega) (hab:a+b<=1000000:=by omega) :
  aj Φ prog ⟨164,[.fact p],[oS x],.eM J j⟩:=by
 subst hm;exact jF (Nk (F:=λc=>if c=0 then A else B) (N:=λc=>if c=0 then a else b) (n:=2) (λj _=>by
  rcases (show j=0∨j=1∨j=2 by omega) with rfl | rfl | rfl <;> simp [cV] <;> omega) (λ_ _ _ _ h=>by
  split at h
  ·exact hA _ _ _ h
  ·exact hB _ _ _ h) (λ_ _=>by
  split
  ·exact uA _
  ·exact uB _)) ⟨λ_ _ h=>hp _ _ h,trivial⟩ ⟨⟨rfl,⟨rfl,rfl,λw v h=>by
  rw [hx];have h':bh 110 (eN (λc=>if c=0 then A else B) (λc=>if c=0 then a else b) 2) (a+b) w v:=by
   have e2:cV (λc=>if c=0 then a else b) 2=a+b:=by simp [cV]
   rw [<- e2];exact h
  refine h'.to λi w v hi h=>?_;have e1:cV (λc=>if c=0 then a else b) 1=a:=by simp [cV]
  rw [eN,e1] at h;by_cases hia:i<a
  ·rw [if_pos hia,eN,if_neg (show ¬i<cV (λc=>if c=0 then a else b) 0 from Nat.not_lt_zero _)] at h;exact hAC i w v hia h
  ·rw [if_neg hia] at h;have:=hBC (i-a) w v (by omega) h
   rwa [show a+(i-a)=i by omega] at this⟩,trivial⟩,trivial⟩
def Nm (n:Nat):List WP:=[Nz n,Nz n,oo 1 25,aA 1 25 (λ_ _ _=>False) 0]
def Nn:List Step:=[bQ [0,.lit (Ai 0)] oF (am .lss),bQ [.lit .nl] [oL (Ai 0)] (jf 110),bQ [.lit .nl] [oL (Ai 0)] (aC 110),bQ [0,.lit (Ai 0)] [oN 1] (am .sub),bQ [1,.lit (Ai 0)] oT (am .gtr),bQ [.lit .nl] [oL (Ai 0)] (jf 110),bQ [.lit .nl,.lit (Ai 0)] [⟨.one (.lit (.nl)),[]⟩] (eL 110),.base ⟨0,[.lit .nl,1],[oS 2],.loose [] 1 0 (cA 110 3)⟩,bQ [.lit .nl] [oL (Ai 0)] (aC 110),.base ⟨0,[2,.lit (Ai 0)],[oS 3],.loose [] 1 0 (eL 110)⟩]
def No:List Out:=[⟨.one (.lit (.nl)),[]⟩,oN 0]
theorem Np  (hn:n<=1000000) (h0:0<n):eT (ph (Nm n)) prog ⟨176,[.lit (.nl),0],[oS 3],false⟩:=iJ No [oS 3] Nn func176 (by kernel_rfl) (lB (cn (op:=.lss) ad (bz (show decide (((n:Nat):Int)<0)=false from decide_eq_false (by omega)) (by simp))) (lB (kB underlying110) (lB (kC underlying110) (lB (cO ad rfl) (lB (gG ad) (lB (kB underlying110) (lB (vN (sz:=1) underlying110) (lB (AU underlying110 ad rfl) (lB (kC underlying110) (lB (vO (F:=(λ_ _ _=>False)) underlying110 ad rfl) au))))))))))
  (aP [.lit (.nl),.fact 0 (.one (.i))] ⟨(λ_ h=>by cases h),λ_ _ h=>h▸cY _,trivial⟩) (λ_ _ _ h=>h)
def Ns (n:Nat):List WP:=[Nz n,Nz n]
def Nt:List Step:=[bQ [0,.lit (Ai 0)] oF (am .lss),bQ [.lit .nl] [oL (Ai 0)] (jf 110),bQ [.lit .nl] [oL (Ai 0)] (aC 110),bQ [0,.lit (Ai 0)] [oN 1] (am .sub),bQ [1,.lit (Ai 0)] oF (am .gtr)]
def Nv:List Out:=[⟨.one (.lit (.nl)),[]⟩,oN 0]
theorem Nx  (h0:n=0):aj (ph (Ns n)) prog ⟨176,[.lit (.nl),0],[⟨.one (.lit (.nl)),[]⟩],false⟩:=adL Nv [⟨.one (.lit (.nl)),[]⟩] Nt func176 (by kernel_rfl) (lB (cn (op:=.lss) ad (bz (show decide (((n:Nat):Int)<0)=false from decide_eq_false (by omega)) (by simp))) (lB (kB underlying110) (lB (kC underlying110) (lB (cO ad rfl) (lB (lu ad) au)))))
  (aP [.lit (.nl),.fact 0 (.one (.i))] ⟨(λ_ h=>by cases h),λ_ _ h=>h▸cY _,trivial⟩) (λ_ _ _ h=>h)
theorem Ny  (hq:Im Φ q (Ni (n:Int))) (hx:Φ x=bh 25 F 0) (hn:n<=1000000:=by omega):aj Φ prog ⟨176,[.lit .nl,.fact q],[oS x],.eM J j⟩:=by
 rcases Nat.eq_zero_or_pos n with h | h
 ·intro X w vs hX ha;refine (aU (outs:=[⟨.one (.lit .nl),[]⟩]) (Φ:=Φ) (ar:=[.lit .nl,.fact q]) (Nx (n:=n) h) ⟨rfl,hq,trivial⟩ ⟨⟨rfl,trivial⟩,trivial⟩ X w vs hX ha).mono λe w' ⟨hg,us,he,h2⟩=>?_
  match us,h2 with
  | [u],h2=>
   have e':u = .slice none 0 0:=h2.1.1.1;subst e';exact ⟨hg,_,he,cP ⟨⟨_,_,_,rfl⟩,λ_ h=>by cases h⟩ hx λ_ _=>bh.nil _ _ _,λ_ hg'=>by cases hg'⟩
 ·exact jF (Np (n:=n) hn h) ⟨rfl,hq,trivial⟩ ⟨⟨rfl,⟨rfl,rfl,λ_ _ h=>by
   rw [hx];exact bh.AQ (G:=λ_ _ _=>False) h⟩,trivial⟩,trivial⟩
def qc (F:Nat->PH) (N:Nat->Nat) (n:Nat):List WP:=[Rw 1 (aK (λc=>Rw 1 (aK (F c)) (N c))) n,Nz n,Nz ((cV N n)),bh 25 (eN F N 0) (cV N 0),Nz n,bh 25 (eN F N n) (cV N n)]
def NA (F:Nat->PH) (N:Nat->Nat) (j:Nat):List WP:=[Nz j,bh 25 (eN F N j) (cV N j),λ_ _=>True,Ptr 1 (aK (λc=>Rw 1 (aK (F c)) (N c)) j),Rw 1 (aK (F j)) (N j),bh 25 (eN F N (j+1)) (cV N (j+1)),Nz (j+1)]
def Bi:bp:=⟨[0,2,3,9,10,11,12,23,24,25,26],[(.slot 27,.i),(.slot 6,.s)],[(.one 0,6),(.one 1,.cM [1] 7),(.one 1,.lo 1)],[.closed (.one (Ai 0)),.frm 3,.frm 0],6,[(7,5)]⟩
def Bj:List Step:=[bQ [6,4] oT (am .lss),bQ [0,6] [oP 9] (adK 109),bQ [9] [oS 10] (aQ 110),.base ⟨0,[7,10],[oS 11],.loose [] 1 0 (cA 110 110)⟩,bQ [6,.lit (Ai 1)] [oN 12] (am .add)]
def NB:List Step:=[bQ [6,4] oF (am .lss)]
def NC (F:Nat->PH) (N:Nat->Nat) (j:Nat):List WP:=[Nz j,Nz ((cV N j)),Ptr 1 (aK (λc=>Rw 1 (aK (F c)) (N c)) j),Rw 1 (aK (F j)) (N j),Nz (N j),Nz ((cV N (j+1))),Nz (j+1)]
def Bk:bp:=⟨[0,2,9,10],[(.slot 11,.i),(.slot 3,.i)],[(.one 0,6),(.one 1,7)],[.closed (.one (Ai 0)),.closed (.one (Ai 0))],6,[(7,2)]⟩
def Bl:List Step:=[bQ [6,1] oT (am .lss),bQ [0,6] [oP 8] (adK 109),bQ [8] [oS 9] (aQ 110),bQ [9] [oN 10] (aC 110),bQ [7,10] [oN 11] (am .add),bQ [11,.lit (Ai 0)] oF (am .lss),bQ [6,.lit (Ai 1)] [oN 12] (am .add)]
def ND:List Step:=[bQ [6,1] oF (am .lss)]
def NE:List Step:=[bQ [0] [oN 1] (aC 109),.loop Bk [(Bl,[.frm 12,.frm 11])] ND,.base ⟨176,[.lit .nl,2],[oS 3],.eM [] 1⟩,bQ [0] [oN 4] (aC 109),.loop Bi [(Bj,[.frm 12,.frm 11,.frm 0])] NB]
def NG:List Out:=[oS 0]
theorem NH {F:Nat->PH} (hs:∀j,j<=n->cV N j<=1000000) (hS:∀c i w s,F c i w s->∃p n c,s = .slice p n c) (hF:∀c i,ee (F c i)) (hn:n<=1000:=by omega):eT (ph (qc F N n)) prog ⟨165,[0],[oS 5],false⟩:=by
 have hsn:=hs n (Nat.le_refl n);exact iJ NG [oS 5] NE func165 (by kernel_rfl) (lB (aM (F:=(aK (λc=>Rw 1 (aK (F c)) (N c)))) underlying109 ad rfl) (bN (counted n (λj=>ph (qc F N n ++ NC F N j)) (λ_=>0) (λ_ p hp=>bO (show p<(qc F N n).length from hp)) ⟨λ_=>rfl,λ_=>rfl,trivial⟩ (λj _=>by
   have hs1:=hs (j+1) (by omega);have hs0:=hs j (by omega);exact ⟨(Bl,[.frm 12,.frm 11]),rfl,⟨ad,ad,trivial⟩,(lB (bK ad ad) (lB (bw (i:=j) (F:=(aK (λc=>Rw 1 (aK (F c)) (N c)))) underlying109 ad ad rfl) (lB (iH (G:=Rw 1 (aK (F j)) (N j)) ad (λ_ _ h=>fD h) rfl) (lB (aM (F:=(aK (F j))) underlying110 ad rfl) (lB (jG ad ad (hc:=(by rw [cV];omega)) rfl) (lB (cn (op:=.lss) ad (bz (show decide (((((cV N (j+1))):Nat):Int)<0)=false from decide_eq_false (by omega)) (by simp))) (lB (ch ad rfl) au)))))))⟩) (lB (tlF ad ad) au)
   (poC (λ_ _ h=>(λh=>h) h) poN)) (lB (Ny (F:=eN F N 0) ad rfl) (lB (aM (F:=(aK (λc=>Rw 1 (aK (F c)) (N c)))) underlying109 ad rfl) (bN (counted n (λj=>ph (qc F N n ++ NA F N j)) (λ_=>0) (λ_ p hp=>bO (show p<(qc F N n).length from hp)) ⟨λ_=>rfl,ad,bI,trivial⟩ (λj _=>by
   skip
   exact ⟨(Bj,[.frm 12,.frm 11,.frm 0]),rfl,⟨ad,ad,bI,trivial⟩,(lB (bK ad ad) (lB (bw (i:=j) (F:=(aK (λc=>Rw 1 (aK (F c)) (N c)))) underlying109 ad ad rfl) (lB (iH (G:=Rw 1 (aK (F j)) (N j)) ad (λ_ _ h=>fD h) rfl) (lB (AW (i:=j) underlying110 hS hF (hs (j+1) (by omega)) ad ad rfl) (lB (ch ad rfl) au)))))⟩) (lB (tlF ad ad) au)
   (poC (λ_ _ h=>(λh=>h) h) poN)) au)))))
  (aP [.fact 0 (.one (.s))] ⟨Rw.Is 1 (aK (λc=>Rw 1 (aK (F c)) (N c))) n,trivial⟩) aV
theorem NI {m:Nat}{C:PH} (hp:Im Φ p (Rw 1 (aK (two A B a b)) 2)) (hx:Φ x=bh 25 C m) (hm:a+b=m) (hab:a+b<=1000000) (hA:∀i w s,A i w s->∃p n c,s = .slice p n c) (hB:∀i w s,B i w s->∃p n c,s = .slice p n c) (uA:∀i,ee (A i)) (uB:∀i,ee (B i)) (hAC:∀i w v,i<a->A i w v->C i w v) (hBC:∀i w v,i<b->B i w v->C (a+i) w v) :
  aj Φ prog ⟨165,[.fact p],[oS x],.eM J j⟩:=by
 subst hm;exact jF (NH (F:=λc=>if c=0 then A else B) (N:=λc=>if c=0 then a else b) (n:=2) (λj _=>by
  rcases (show j=0∨j=1∨j=2 by omega) with rfl | rfl | rfl <;> simp [cV] <;> omega) (λ_ _ _ _ h=>by
  split at h
  ·exact hA _ _ _ h
  ·exact hB _ _ _ h) (λ_ _=>by
  split
  ·exact uA _
  ·exact uB _)) ⟨λ_ _ h=>hp _ _ h,trivial⟩ ⟨⟨rfl,⟨rfl,rfl,λw v h=>by
  rw [hx];have h':bh 25 (eN (λc=>if c=0 then A else B) (λc=>if c=0 then a else b) 2) (a+b) w v:=by
   have e2:cV (λc=>if c=0 then a else b) 2=a+b:=by simp [cV]
   rw [<- e2];exact h
  refine h'.to λi w v hi h=>?_;have e1:cV (λc=>if c=0 then a else b) 1=a:=by simp [cV]
  rw [eN,e1] at h;by_cases hia:i<a
  ·rw [if_pos hia,eN,if_neg (show ¬i<cV (λc=>if c=0 then a else b) 0 from Nat.not_lt_zero _)] at h;exact hAC i w v hia h
  ·rw [if_neg hia] at h;have:=hBC (i-a) w v (by omega) h
   rwa [show a+(i-a)=i by omega] at this⟩,trivial⟩,trivial⟩
theorem NJ {m:Nat}{C:PH} (hp:Im Φ p (Rw 1 (aK (two A B a b)) 2)) (hx:Φ x=Rw 1 (aK C) m) (hA:∀i w s,A i w s->∃p n c,s = .slice p n c) (hB:∀i w s,B i w s->∃p n c,s = .slice p n c) (uA:∀i,ee (A i)) (uB:∀i,ee (B i)) (hAC:∀i w v,i<a->A i w v->C i w v) (hBC:∀i w v,i<b->B i w v->C (a+i) w v) (hm:a+b=m:=by omega) (hab:a+b<=1000000:=by omega) :
  aj Φ prog ⟨165,[.fact p],[oS x],false⟩:=
 aU (eT.call (md:=.eM [] 0) (NI (Φ:=ph [Rw 1 (aK (two A B a b)) 2,bh 25 C m]) (p:=0) (x:=1) (J:=[]) (j:=0) ad rfl hm hab hA hB uA uB hAC hBC)) ⟨hp,trivial⟩ ⟨⟨rfl,⟨rfl,rfl,λ_ _ h=>by
  rw [hx];exact bh.rw (e:=25) h⟩,trivial⟩,trivial⟩
end Go.Proofs.YtlmanbjkkjfjgaaGreat.Sym
