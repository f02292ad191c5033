/- A row put behind a row o -/
import Derived.Test.YtomamliepbhegaaGreatPolC
import Derived.Lib.AppendZerosOnto
namespace Go.Proofs.YtomamliepbhegaaGreat
open Go.Proofs.Tryz
open Go.RowKit
section
variable {sz n:Nat}{e:TypeId}{w w':World}{v:Value}{xs:List Value}
set_option maxRecDepth 100000 in
theorem Mb (t ty:TypeId){i0:TypeInfo}{z:Value}{bytes:Nat} (hU:prog.underlying t=some (.slice e)) (hi:prog.info? e=some i0) (hz0:i0.zero=some z) (hz1:i0.size=sz) (hz2:i0.bytes=bytes) (hzs:z.cells.size=sz) (hsz:0<sz) (hbb:bytes<=1000) (hzn:∀x,x ∈ z.cells.toList->cX x)
  (h:ei sz e w v n xs) (a:Addr) (m c:Nat) (news:List Value) (hl1:news.length=m*sz) (hm:0<m) (hnews:∀(j:Nat) u,news[j]?=some u->w.cell? (a.add j)=some u) (hone:∀u,u ∈ news->u.oneCell'=true) (hnn:∀u,u ∈ news->cX u) (hn:n+m<=1000000) :
  ∃v' w',(Builtin.append_ #[t,t] ty #[v,.slice (some a) m c]).run prog w = .ok v' w'∧ei sz e w' v' (n+m) (xs ++ news)∧w.grownBy w' v.ownBlock∧(v'.ownBlock=v.ownBlock∨v'.ownBlock=some w.heap.size):=by
 have hby:(n+m)*bytes<=140737488355328:=Nat.le_trans (Nat.mul_le_mul hn hbb) (by decide)
 obtain ⟨v',w',hr,ho,hg,-,hb⟩:=run_append_own_at (P:=prog) (w:=w) 0 t ty e i0 z sz bytes hU hi hz0 hz1 hz2 hzs hsz v n xs h.1 a m c news hl1 hnews hone (by simp only [maxLen];omega) hby (by omega)
 refine ⟨v',w',hr,⟨ho,?_⟩,hg,hb⟩
 have hL:∀x,x ∈ xs->cX x:=fun x hx=>by
  rcases h.1.2 with ⟨-,h2⟩ | ⟨g,cap,cur,hv,-,hh,-,-,-,h6⟩
  ·have:=h.1.1
   rw [h2,Nat.zero_mul] at this
   rw [List.eq_nil_of_length_eq_zero this] at hx;cases hx
  ·rw [<- h6] at hx
   exact h.2 g cur _ _ (by rw [hv];rfl) hh x (List.mem_of_mem_take hx)
 subst hz1
 rcases h.1.2 with ⟨rfl,h2⟩ | ⟨g,cap,cur,rfl,hb',hh,h3,h4,h5,h6⟩
 ·subst h2
  have hr2:=run_append_nil (P:=prog) (w:=w) t ty e i0 z hU hi hz0 a m c news hl1 hnews (by omega) (by omega) (by rw [hz2];have hb:=hby;simp only [Nat.zero_add] at hb;omega)
  rw [hr] at hr2
  injection hr2 with e1 e2
  subst e1 e2
  intro g cur e' q hgg fP x hx
  simp only [Value.ownBlock,Option.some.injEq] at hgg
  subst hgg
  rw [show w.heap.size=w.drew.heap.size from rfl,heap_alloc_new] at fP
  cases fP
  simp only [Array.toList_append,List.mem_append] at hx
  rcases hx with hx | hx
  ·exact hnn x (by simpa using hx)
  ·exact nR hzn (by omega) _ x hx
 ·by_cases hroom:n+m<=cap
  ·have hfit:n*i0.size+news.length<=cur.size:=by
    rw [h5,hl1,<- Nat.add_mul];exact Nat.mul_le_mul_right _ hroom
   have hr2:=run_append_room (P:=prog) (w:=w) t ty e i0 hU hi g n cap cur hh a m c news hl1 hnews hone hroom hfit
   rw [hr] at hr2
   injection hr2 with e1 e2
   subst e1 e2
   intro g' cur' e' q hgg fP x hx
   simp only [Value.ownBlock,Option.some.injEq] at hgg
   subst hgg
   rw [setRow_heap w g cur _ _ _ hh] at fP
   cases fP
   simp only [List.mem_append] at hx
   rcases hx with (hx | hx) | hx
   ·exact h.2 g cur _ _ rfl hh x (List.mem_of_mem_take hx)
   ·exact hnn x hx
   ·exact h.2 g cur _ _ rfl hh x (List.mem_of_mem_drop hx)
  ·have holds:∀(j:Nat) u,xs[j]?=some u->w.cell? (Addr.add ⟨g,0,none⟩ j)=some u:=h.1.cells (g:=g) rfl
   have hr2:=run_append_grow (P:=prog) (w:=w) t ty e i0 z hU hi hz0 ⟨g,0,none⟩ n cap xs h.1.1 holds a m c news hl1 hnews (by omega) (by omega) (growslice_fits (by omega) (by rw [hz2];exact hby))
   rw [hr] at hr2
   injection hr2 with e1 e2
   subst e1 e2
   intro g' cur' e' q hgg fP x hx
   simp only [Value.ownBlock,Option.some.injEq] at hgg
   subst hgg
   rw [show w.heap.size=w.drew.heap.size from rfl,heap_alloc_new] at fP
   cases fP
   simp only [Array.toList_append,List.mem_append] at hx
   rcases hx with (hx | hx) | hx
   ·exact hL x (by simpa using hx)
   ·exact hnn x (by simpa using hx)
   ·exact nR hzn (by omega) _ x hx
end
theorem Ad {Q:Nat->List Value->Prop}:∀{m:Nat},(∀i,i<m->∃l,Q i l)->∃rows:List (List Value),rows.length=m∧∀i r,rows[i]?=some r->Q i r
 | 0,_=>⟨[],rfl,fun i r h=>by simp at h⟩
 | m+1,h=>by
  obtain ⟨rows,h1,h2⟩:=Ad (m:=m) fun i hi=>h i (by omega)
  obtain ⟨l,hl⟩:=h m (by omega)
  refine ⟨rows ++ [l],by simp [h1],fun i r hr=>?_⟩
  rw [List.getElem?_append] at hr
  split at hr
  ·exact h2 i r hr
  ·have:=(List.getElem?_eq_some_iff.1 hr).1
   simp at this
   obtain rfl:i=m:=by omega
   rw [h1,Nat.sub_self] at hr
   simp at hr
   exact hr▸hl
theorem Ae {sz:Nat} (hs:0<sz):∀{rows:List (List Value)},(∀r,r ∈ rows->r.length=sz)->∀{j:Nat}{u:Value},rows.flatten[j]?=some u->∃i k r,j=i*sz+k∧rows[i]?=some r∧r[k]?=some u
 | [],_,j,u,h=>by simp at h
 | r :: rows,hl,j,u,h=>by
  have h0:=hl r (List.mem_cons_self ..)
  rw [List.flatten_cons,List.getElem?_append] at h
  split at h
  ·exact ⟨0,j,r,by omega,rfl,h⟩
  ·obtain ⟨i,k,r',h1,h2,h3⟩:=Ae hs (fun r hr=>hl r (List.mem_cons_of_mem _ hr)) h
   exact ⟨i+1,k,r',by rw [Nat.succ_mul];omega,by simpa using h2,h3⟩
end Go.Proofs.YtomamliepbhegaaGreat
namespace Go.Proofs.YtomamliepbhegaaGreat.Sym
open Go.Proofs.Tryz
open Go.RowKit
theorem Mc {Φ:PH}{p q x j sz n m:Nat}{t e:TypeId}{F G F':PH}{i0:TypeInfo}{z:Value}{bytes:Nat} (hU:prog.underlying t=some (.slice e)) (hi:prog.info? e=some i0) (hz0:i0.zero=some z) (hz1:i0.size=sz) (hz2:i0.bytes=bytes) (hzs:z.cells.size=sz) (hzn:∀x,x ∈ z.cells.toList->cX x)
  (hK:∀i w w1 v,Kp w w1->F' i w v->F' i w1 v) (hp:∀w v,Φ p w v->ah sz e F n w v) (hq:∀w v,Φ q w v->Rw sz G m w v) (h1F:∀i w v,i<n->F i w v->F' i w v) (h1G:∀i w v,i<m->G i w v->F' (n+i) w v) (hc:∀i w (l:List Value),G i w (.agg l.toArray)->∀u,u ∈ l->u.oneCell'=true∧cX u) (hn:n+m<=1000000) (hx:Φ x=ah sz e F' (n+m)) (hsz:0<sz:=by omega) (hbb:bytes<=1000:=by omega) :
  aj Φ prog ⟨0,[.fact p,.fact q],[oS x],.loose [] j 0 (eF t t)⟩:=fun X L w ac o ys hX hL hLX hm ha hb _=>by
 obtain ⟨y,u,hys⟩:∃y u,ys.map ac.eval = [y,u]:=by
  match ys.map ac.eval,ha with
  | [y,u],_=>exact ⟨y,u,rfl⟩
 rw [show List.map ac.eval ys = [y,u] from hys] at ha
 obtain ⟨a,b,ho,rfl,ea,eb⟩:=rN hm hys
 obtain ⟨h1,h2,-⟩:=ha
 have hy:=hp _ _ (h1 w (Off.refl _ _))
 obtain ⟨p0,c0,hu,hc0,hel⟩:=hq _ _ (h2 w (Off.refl _ _))
 have hLy:∀m,y.ownBlock=some m->L m:=fun m hm'=>hb a m rfl (by rw [ea,gW];exact hm')
 rcases Nat.eq_zero_or_pos m with hm0 | hm0
 ·subst hm0
  obtain ⟨py,cy,hyv,hcy,-⟩:=hy.rw
  have hr:=zX (P:=prog) (w:=w) t o.type e i0 hU hi py p0 n cy c0 hcy
  have hrun:=pI (o:=o) (P:=prog) ho (by rw [ea,hyv]) (by rw [eb,hu]) hr
  refine ⟨.slice py n cy,w,none,hrun,bh w none,(fun _ h=>by cases h),Kp.refl _,(fun m k v _ h4 h5=>⟨h4,h5⟩),fun m hm'=>?_,cL ⟨⟨_,_,_,rfl⟩,fun _ h=>by cases h⟩ hx fun w1 hw=>?_⟩
  ·rw [gW,<- hyv] at hm'
   exact ⟨hL m (hLy m hm'),.inl (hLy m hm')⟩
  ·rw [<- hyv]
   exact (hp _ _ (h1 w1 hw)).to h1F
 ·obtain ⟨rows,r1,r2,r3,r4⟩:=hy
  obtain ⟨b0,rO,hp0,-⟩:=hel 0 hm0
  subst hp0
  obtain ⟨pJ,s1,s2⟩:=Ad (m:=m) (Q:=fun i l=>l.length=sz∧(∀(k:Nat) u,l[k]?=some u->w.cell? ⟨b0,rO+i*sz+k,none⟩=some u)∧G i w (.agg l.toArray)) fun i hi=>by
   obtain ⟨b',off',hbo,l,h3,h4,h5⟩:=hel i hi
   simp only [Option.some.injEq,Addr.mk.injEq,and_true] at hbo
   obtain ⟨rfl,rfl⟩:=hbo
   exact ⟨l,h3,h4,h5⟩
  have uD:∀r,r ∈ pJ->r.length=sz:=fun r hr=>by
   obtain ⟨i,hi,rfl⟩:=List.getElem_of_mem hr
   exact (s2 i _ (List.getElem?_eq_getElem hi)).1
  have hcells:∀(k:Nat) v,pJ.flatten[k]?=some v->w.cell? (Addr.add ⟨b0,rO,none⟩ k)=some v:=fun k v hk=>by
   obtain ⟨i,k',r,rfl,hr,hk'⟩:=Ae hsz uD hk
   have:=(s2 i r hr).2.1 k' v hk'
   rw [Addr.add_lit,<- Nat.add_assoc]
   exact this
  have hcs:∀v,v ∈ pJ.flatten->v.oneCell'=true∧cX v:=fun v hv=>by
   obtain ⟨r,hr,hvr⟩:=List.mem_flatten.1 hv
   obtain ⟨i,hi,rfl⟩:=List.getElem_of_mem hr
   exact hc i w _ (s2 i _ (List.getElem?_eq_getElem hi)).2.2 v hvr
  obtain ⟨v',w',hr,ho',hg,hbl⟩:=Mb t o.type hU hi hz0 hz1 hz2 hzs hsz hbb hzn r3 ⟨b0,rO,none⟩ m c0 pJ.flatten (by rw [nS uD,s1]) hm0 hcells (fun v hv=>(hcs v hv).1) (fun v hv=>(hcs v hv).2) hn
  have hkp:=r3.kp hg
  have hv':∀m,v'.ownBlock=some m->L m∨m=w.heap.size:=fun m hm'=>by
   rcases hbl with h | h
   ·exact .inl (hLy m (by rw [<- h];exact hm'))
   ·rw [hm'] at h;exact .inr (Option.some.inj h)
  have hrun:=pI (o:=o) (P:=prog) ho ea (by rw [eb,hu]) hr
  refine ⟨v',w',y.ownBlock,hrun,hg,hLy,hkp,fun m k v hm' h4 h5=>?_,fun m hm'=>?_,?_⟩
  ·have hbk:=hg.block m (World.block_lt_of_cell? _ _ h4) (fun e'=>hm' m e'.symm rfl)
   refine ⟨by rw [World.cell?_of_block hbk];exact h4,?_⟩
   simp only [World.frozen?,hbk] at h5 ⊢
   exact h5
  ·rw [gW] at hm'
   refine ⟨ho'.lt m hm',?_⟩
   rcases hv' m hm' with h | h
   ·exact .inl h
   ·exact .inr (by omega)
  ·obtain ⟨p1,n1,c1,rfl⟩:∃p n c,v' = .slice p n c:=by
    rcases ho'.1.2 with ⟨h,-⟩ | ⟨_,_,_,h,-⟩ <;> exact ⟨_,_,_,h⟩
   refine cL ⟨⟨_,_,_,rfl⟩,fun _ h=>by cases h⟩ hx fun w1 hw=>?_
   refine ⟨rows ++ pJ,by simp [r1,s1],fun r hr=>?_,?_,fun i r hr=>?_⟩
   ·rcases List.mem_append.1 hr with hr | hr
    ·exact r2 r hr
    ·exact uD r hr
   ·rw [List.flatten_append]
    refine ho'.keep fun m hm'=>hw.2 m (ho'.lt m hm') fun hx'=>?_
    rcases hv' m hm' with h | h
    ·exact hLX m h hx'
    ·have:=hX m hx';omega
   ·rw [List.getElem?_append] at hr
    split at hr
    ·rename_i hlt
     exact hK _ _ _ _ (hkp.trans hw.1) (h1F i _ _ (by omega) (r4 i r hr))
    ·rename_i hge
     have hlt:=(List.getElem?_eq_some_iff.1 hr).1
     have:=h1G (i-rows.length) _ _ (by omega) (s2 _ r hr).2.2
     rw [r1,show n+(i-n)=i by omega] at this
     exact hK _ _ _ _ (hkp.trans hw.1) this
end Go.Proofs.YtomamliepbhegaaGreat.Sym
