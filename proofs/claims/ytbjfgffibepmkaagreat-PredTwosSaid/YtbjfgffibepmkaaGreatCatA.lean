/- Rows of whole numbers an -/
import Derived.Test.YtbjfgffibepmkaaGreatPolB
import Derived.Test.YtbjfgffibepmkaaGreatRefV
import Derived.Lib.AppendZerosOnto
namespace Go.Proofs.YtbjfgffibepmkaaGreat.Sym
open Go.Proofs.Tryz
open Go.RowKit
variable {i j k:Nat}{f:Nat->Int}{w:World}{v:Value}{z:Int}{l:List Value}{q:Rat}
def upto (j:Nat) (f:Nat->Int) (i:Nat):Int:=if i<j then f i else 0
theorem mg  (h:i≠j):upto (j+1) f i=upto j f i:=by
 unfold upto
 split <;> split <;> first | rfl | omega
theorem mh (j:Nat) (f:Nat->Int):upto (j+1) f j=f j:=if_pos (Nat.lt_succ_self j)
theorem gi  (h:i<j:=by omega):upto j f i=f i:=if_pos h
theorem ak.re {k l:Nat} (h:ak w v z k) (hb:Bd z.natAbs l):ak w v z l:=⟨And.left h,hb⟩
theorem ak.zero (w:World) (k:Nat):ak w (.agg #[.bool false,.slice none 0 0]) 0 k:=⟨⟨none,0,by simp [am,gJ],by simpa [am,gJ] using Sl.nil w .u32⟩,by show (0:Int).natAbs<_;exact Nat.pow_pos (by omega)⟩
theorem aF.eO  (h:aF w (.agg l.toArray) z k):∀u,u ∈ l->u.oneCell'=true∧cL u:=by
 obtain ⟨b,p,n,c,e,-⟩:=h.open
 simp only [Value.agg.injEq] at e
 have hl:l = [.bool b,.slice p n c]:=by have:=congrArg Array.toList e;simpa using this
 subst hl
 intro u hu
 simp only [List.mem_cons,List.not_mem_nil,or_false] at hu
 rcases hu with rfl | rfl <;> exact ⟨rfl,fun k m _ e=>by cases e⟩
theorem ak.eO  (h:ak w (.agg l.toArray) z k):∀u,u ∈ l->u.oneCell'=true∧cL u:=aF.eO h.i
theorem aH.eO {b:Bool}{xs:List Nat} (h:aH w (.agg l.toArray) b xs):∀u,u ∈ l->u.oneCell'=true∧cL u:=by
 obtain ⟨s,e,⟨p,c,rfl,-⟩,-⟩:=h
 simp only [Value.agg.injEq] at e
 have hl:l = [.bool b,.slice p xs.length c]:=by have:=congrArg Array.toList e;simpa using this
 subst hl
 intro u hu
 simp only [List.mem_cons,List.not_mem_nil,or_false] at hu
 rcases hu with rfl | rfl <;> exact ⟨rfl,fun k m _ e=>by cases e⟩
theorem af.eO  (h:af w (.agg l.toArray) q k):∀u,u ∈ l->u.oneCell'=true∧cL u:=by
 obtain ⟨p,n,c,b,p',n',c',b',e,-⟩:=h
 simp only [Value.agg.injEq] at e
 have hl:l = [.slice p n c,.bool b,.slice p' n' c',.bool b']:=by have:=congrArg Array.toList e;simpa using this
 subst hl
 intro u hu
 simp only [List.mem_cons,List.not_mem_nil,or_false] at hu
 rcases hu with rfl | rfl | rfl | rfl <;> exact ⟨rfl,fun k m _ e=>by cases e⟩
theorem aF.cells  (h:aF w v z k):∃l:List Value,v = .agg l.toArray∧l.length=2∧∀u,u ∈ l->u.oneCell'=true∧cL u:=by
 obtain ⟨b,p,n,c,rfl,h2⟩:=h.open
 exact ⟨[.bool b,.slice p n c],rfl,rfl,aF.eO (l:=[.bool b,.slice p n c]) h2⟩
theorem ak.cells  (h:ak w v z k):∃l:List Value,v = .agg l.toArray∧l.length=2∧∀u,u ∈ l->u.oneCell'=true∧cL u:=aF.cells h.i
theorem af.cells  (h:af w v q k):∃l:List Value,v = .agg l.toArray∧l.length=4∧∀u,u ∈ l->u.oneCell'=true∧cL u:=by
 obtain ⟨p,n,c,b,p',n',c',b',rfl,h2⟩:=id h
 exact ⟨[.slice p n c,.bool b,.slice p' n' c',.bool b'],rfl,rfl,af.eO (l:=[.slice p n c,.bool b,.slice p' n' c',.bool b']) h⟩
theorem infoI:(prog.info? 27).map (fun i=>(i.zero,i.size,i.bytes))=some (some (.agg #[.bool false,.slice none 0 0]),2,32):=by kernel_rfl
theorem pR:(prog.info? 63).map (fun i=>(i.zero,i.size,i.bytes))=some (some (.agg #[.slice none 0 0,.bool false,.slice none 0 0,.bool false]),4,64):=by kernel_rfl
theorem nc:∀u,u ∈ (Value.agg #[.bool false,.slice none 0 0]).cells.toList->cL u:=fun x hx=>by
 have hx':x ∈ [Value.bool false,.slice none 0 0]:=hx
 simp only [List.mem_cons,List.not_mem_nil,or_false] at hx'
 rcases hx' with rfl | rfl <;> exact fun k m _ e=>by cases e
theorem pS:∀u,u ∈ (Value.agg #[.slice none 0 0,.bool false,.slice none 0 0,.bool false]).cells.toList->cL u:=fun x hx=>by
 have hx':x ∈ [Value.slice none 0 0,.bool false,.slice none 0 0,.bool false]:=hx
 simp only [List.mem_cons,List.not_mem_nil,or_false] at hx'
 rcases hx' with rfl | rfl | rfl | rfl <;> exact fun k m _ e=>by cases e
section
variable {Φ:PH}{p q x n:Nat}{F:PH}
theorem kN (hp:∀w v,Φ p w v->v = .int .i64 (n:Int)) (hF:∀k w,F k w (.agg #[.bool false,.slice none 0 0])) (hx:Φ x=aC 2 27 F n) (hn:n<=1000000:=by omega):aj Φ prog ⟨0,[.fact p,.fact p],[oS x],.loose [] j 0 (fK 24)⟩:=by
 obtain ⟨i0,hi,hz0,hz1,hz2⟩:=info_parts infoI
 exact sB underlying24 hi hz0 hz1 hz2 rfl nc hp hn hF hx
theorem Pr (hp:∀w v,Φ p w v->v = .int .i64 (n:Int)) (hF:∀k w,F k w (.agg #[.slice none 0 0,.bool false,.slice none 0 0,.bool false])) (hx:Φ x=aC 4 63 F n) (hn:n<=1000000:=by omega):aj Φ prog ⟨0,[.fact p,.fact p],[oS x],.loose [] j 0 (fK 32)⟩:=by
 obtain ⟨i0,hi,hz0,hz1,hz2⟩:=info_parts pR
 exact sB underlying32 hi hz0 hz1 hz2 rfl pS hp hn hF hx
theorem nw (hF:∀i w w1 v,Kp w w1->F i w v->F i w1 v) (hp:∀w v,Φ p w v->aC 2 27 F n w v) (hq:∀w v,Φ q w v->F n w v) (hc:∀w (l:List Value),Φ q w (.agg l.toArray)->∀u,u ∈ l->u.oneCell'=true∧cL u) (hx:Φ x=aC 2 27 F (n+1)) (hn:n<=1000000:=by omega) :
  aj Φ prog ⟨0,[.fact p,.row 2 [q]],[oS x],.loose [] j 0 (bO 24 24)⟩:=by
 obtain ⟨i0,hi,hz0,hz1,hz2⟩:=info_parts infoI
 exact Cc underlying24 hi hz0 hz1 hz2 rfl nc hF hp hq hc hn hx
theorem pW (hF:∀i w w1 v,Kp w w1->F i w v->F i w1 v) (hp:∀w v,Φ p w v->aC 4 63 F n w v) (hq:∀w v,Φ q w v->F n w v) (hc:∀w (l:List Value),Φ q w (.agg l.toArray)->∀u,u ∈ l->u.oneCell'=true∧cL u) (hx:Φ x=aC 4 63 F (n+1)) (hn:n<=1000000:=by omega) :
  aj Φ prog ⟨0,[.fact p,.row 4 [q]],[oS x],.loose [] j 0 (bO 32 32)⟩:=by
 obtain ⟨i0,hi,hz0,hz1,hz2⟩:=info_parts pR
 exact Cc underlying32 hi hz0 hz1 hz2 rfl pS hF hp hq hc hn hx
theorem eF {P:Program} (J:List Nat){f:FuncId}{args:List Arg}{outs:List Out}{bz:Bool} (h:aj Φ P ⟨f,args,outs,.call bz⟩):aj Φ P ⟨f,args,outs,.dF J bz⟩:=h
theorem kM  (hp:Φ p=Nw 0 0) (Y:Nat->Prop) (w:World) (v:Value) (h:(Arg.parts (.agg [.lit (.cb false),.lit .nl]) []).ok Φ Y w v):(Arg.fact p).ok Φ Y w v:=fun w1 hw=>by
 rw [hp]
 obtain ⟨⟨us,rfl,h2⟩,_⟩:=h
 match us,h2 with
 | [v0,v1],h2=>
  obtain ⟨e0,e1,_⟩:=h2
  have uK:v0 = .bool false:=e0
  have e1':v1 = .slice none 0 0:=e1
  subst uK;subst e1'
  exact ak.zero w1 0
end
end Go.Proofs.YtbjfgffibepmkaaGreat.Sym
namespace Go.Proofs.YtbjfgffibepmkaaGreat
open Go.Proofs.Tryz
open Go.RowKit
section
variable {sz n:Nat}{e:TypeId}{w w':World}{v:Value}{xs:List Value}
set_option maxRecDepth 100000 in
theorem xc (t ty:TypeId){i0:TypeInfo}{z:Value}{bytes:Nat} (hU:prog.underlying t=some (.slice e)) (hi:prog.info? e=some i0) (hz0:i0.zero=some z) (hz1:i0.size=sz) (hz2:i0.bytes=bytes) (hzs:z.cells.size=sz) (hsz:0<sz) (hbb:bytes<=1000) (hzn:∀x,x ∈ z.cells.toList->cL x)
  (h:dR sz e w v n xs) (a:Addr) (m c:Nat) (news:List Value) (hl1:news.length=m*sz) (hm:0<m) (hnews:∀(j:Nat) u,news[j]?=some u->w.cell? (a.add j)=some u) (hone:∀u,u ∈ news->u.oneCell'=true) (hnn:∀u,u ∈ news->cL u) (hn:n+m<=1000000) :
  ∃v' w',(Builtin.append_ #[t,t] ty #[v,.slice (some a) m c]).run prog w = .ok v' w'∧dR sz e w' v' (n+m) (xs ++ news)∧w.grownBy w' v.ownBlock∧(v'.ownBlock=v.ownBlock∨v'.ownBlock=some w.heap.size):=by
 have hby:(n+m)*bytes<=140737488355328:=Nat.le_trans (Nat.mul_le_mul hn hbb) (by decide)
 obtain ⟨v',w',hr,ho,hg,-,hb⟩:=run_append_own_at (P:=prog) (w:=w) 0 t ty e i0 z sz bytes hU hi hz0 hz1 hz2 hzs hsz v n xs h.1 a m c news hl1 hnews hone (by simp only [maxLen];omega) hby (by omega)
 refine ⟨v',w',hr,⟨ho,?_⟩,hg,hb⟩
 have hL:∀x,x ∈ xs->cL x:=fun x hx=>by
  rcases h.1.2 with ⟨-,h2⟩ | ⟨g,cap,cur,hv,-,hh,-,-,-,h6⟩
  ·have:=h.1.1
   rw [h2,Nat.zero_mul] at this
   rw [List.eq_nil_of_length_eq_zero this] at hx;cases hx
  ·rw [<- h6] at hx
   exact h.2 g cur _ _ (by rw [hv];rfl) hh x (List.mem_of_mem_take hx)
 subst hz1
 rcases h.1.2 with ⟨rfl,h2⟩ | ⟨g,cap,cur,rfl,hb',hh,h3,h4,h5,h6⟩
 ·subst h2
  have hr2:=run_append_nil (P:=prog) (w:=w) t ty e i0 z hU hi hz0 a m c news hl1 hnews (by omega) (by omega) (by rw [hz2];have hb:=hby;simp only [Nat.zero_add] at hb;omega)
  rw [hr] at hr2
  injection hr2 with e1 e2
  subst e1 e2
  intro g cur e' q hgg ft x hx
  simp only [Value.ownBlock,Option.some.injEq] at hgg
  subst hgg
  rw [show w.heap.size=w.drew.heap.size from rfl,heap_alloc_new] at ft
  cases ft
  simp only [Array.toList_append,List.mem_append] at hx
  rcases hx with hx | hx
  ·exact hnn x (by simpa using hx)
  ·exact jB hzn (by omega) _ x hx
 ·by_cases hroom:n+m<=cap
  ·have hfit:n*i0.size+news.length<=cur.size:=by
    rw [h5,hl1,<- Nat.add_mul];exact Nat.mul_le_mul_right _ hroom
   have hr2:=run_append_room (P:=prog) (w:=w) t ty e i0 hU hi g n cap cur hh a m c news hl1 hnews hone hroom hfit
   rw [hr] at hr2
   injection hr2 with e1 e2
   subst e1 e2
   intro g' cur' e' q hgg ft x hx
   simp only [Value.ownBlock,Option.some.injEq] at hgg
   subst hgg
   rw [setRow_heap w g cur _ _ _ hh] at ft
   cases ft
   simp only [List.mem_append] at hx
   rcases hx with (hx | hx) | hx
   ·exact h.2 g cur _ _ rfl hh x (List.mem_of_mem_take hx)
   ·exact hnn x hx
   ·exact h.2 g cur _ _ rfl hh x (List.mem_of_mem_drop hx)
  ·have holds:∀(j:Nat) u,xs[j]?=some u->w.cell? (Addr.add ⟨g,0,none⟩ j)=some u:=h.1.cells (g:=g) rfl
   have hr2:=run_append_grow (P:=prog) (w:=w) t ty e i0 z hU hi hz0 ⟨g,0,none⟩ n cap xs h.1.1 holds a m c news hl1 hnews (by omega) (by omega) (growslice_fits (by omega) (by rw [hz2];exact hby))
   rw [hr] at hr2
   injection hr2 with e1 e2
   subst e1 e2
   intro g' cur' e' q hgg ft x hx
   simp only [Value.ownBlock,Option.some.injEq] at hgg
   subst hgg
   rw [show w.heap.size=w.drew.heap.size from rfl,heap_alloc_new] at ft
   cases ft
   simp only [Array.toList_append,List.mem_append] at hx
   rcases hx with (hx | hx) | hx
   ·exact hL x (by simpa using hx)
   ·exact hnn x (by simpa using hx)
   ·exact jB hzn (by omega) _ x hx
end
theorem sk {Q:Nat->List Value->Prop}:∀{m:Nat},(∀i,i<m->∃l,Q i l)->∃rows:List (List Value),rows.length=m∧∀i r,rows[i]?=some r->Q i r
 | 0,_=>⟨[],rfl,fun i r h=>by simp at h⟩
 | m+1,h=>by
  obtain ⟨rows,h1,h2⟩:=sk (m:=m) fun i hi=>h i (by omega)
  obtain ⟨l,hl⟩:=h m (by omega)
  refine ⟨rows ++ [l],by simp [h1],fun i r hr=>?_⟩
  rw [List.getElem?_append] at hr
  split at hr
  ·exact h2 i r hr
  ·have:=(List.getElem?_eq_some_iff.1 hr).1
   simp at this
   obtain rfl:i=m:=by omega
   rw [h1,Nat.sub_self] at hr
   simp at hr
   exact hr▸hl
theorem pE {sz:Nat} (hs:0<sz):∀{rows:List (List Value)},(∀r,r ∈ rows->r.length=sz)->∀{j:Nat}{u:Value},rows.flatten[j]?=some u->∃i k r,j=i*sz+k∧rows[i]?=some r∧r[k]?=some u
 | [],_,j,u,h=>by simp at h
 | r :: rows,hl,j,u,h=>by
  have h0:=hl r (List.mem_cons_self ..)
  rw [List.flatten_cons,List.getElem?_append] at h
  split at h
  ·exact ⟨0,j,r,by omega,rfl,h⟩
  ·obtain ⟨i,k,r',h1,h2,h3⟩:=pE hs (fun r hr=>hl r (List.mem_cons_of_mem _ hr)) h
   exact ⟨i+1,k,r',by rw [Nat.succ_mul];omega,by simpa using h2,h3⟩
end Go.Proofs.YtbjfgffibepmkaaGreat
namespace Go.Proofs.YtbjfgffibepmkaaGreat.Sym
open Go.Proofs.Tryz
open Go.RowKit
theorem sm {Φ:PH}{p q x j sz n m:Nat}{t e:TypeId}{F G F':PH}{i0:TypeInfo}{z:Value}{bytes:Nat} (hU:prog.underlying t=some (.slice e)) (hi:prog.info? e=some i0) (hz0:i0.zero=some z) (hz1:i0.size=sz) (hz2:i0.bytes=bytes) (hzs:z.cells.size=sz) (hzn:∀x,x ∈ z.cells.toList->cL x)
  (hK:∀i w w1 v,Kp w w1->F' i w v->F' i w1 v) (hp:∀w v,Φ p w v->aC sz e F n w v) (hq:∀w v,Φ q w v->Rw sz G m w v) (h1F:∀i w v,i<n->F i w v->F' i w v) (h1G:∀i w v,i<m->G i w v->F' (n+i) w v) (hc:∀i w (l:List Value),G i w (.agg l.toArray)->∀u,u ∈ l->u.oneCell'=true∧cL u) (hn:n+m<=1000000) (hx:Φ x=aC sz e F' (n+m)) (hsz:0<sz:=by omega) (hbb:bytes<=1000:=by omega) :
  aj Φ prog ⟨0,[.fact p,.fact q],[oS x],.loose [] j 0 (bO t t)⟩:=fun X L w ac o ys hX hL hLX hm ha hb _=>by
 obtain ⟨y,u,hys⟩:∃y u,ys.map ac.eval = [y,u]:=by
  match ys.map ac.eval,ha with
  | [y,u],_=>exact ⟨y,u,rfl⟩
 rw [show List.map ac.eval ys = [y,u] from hys] at ha
 obtain ⟨a,b,ho,rfl,ea,eb⟩:=lN hm hys
 obtain ⟨h1,h2,-⟩:=ha
 have hy:=hp _ _ (h1 w (Off.refl _ _))
 obtain ⟨p0,c0,hu,hc0,hel⟩:=hq _ _ (h2 w (Off.refl _ _))
 have hLy:∀m,y.ownBlock=some m->L m:=fun m hm'=>hb a m rfl (by rw [ea,eM];exact hm')
 rcases Nat.eq_zero_or_pos m with hm0 | hm0
 ·subst hm0
  obtain ⟨py,cy,hyv,hcy,-⟩:=hy.rw
  have hr:=si (P:=prog) (w:=w) t o.type e i0 hU hi py p0 n cy c0 hcy
  have hrun:=jC (o:=o) (P:=prog) ho (by rw [ea,hyv]) (by rw [eb,hu]) hr
  refine ⟨.slice py n cy,w,none,hrun,bt w none,(fun _ h=>by cases h),Kp.refl _,(fun m k v _ h4 h5=>⟨h4,h5⟩),fun m hm'=>?_,cP ⟨⟨_,_,_,rfl⟩,fun _ h=>by cases h⟩ hx fun w1 hw=>?_⟩
  ·rw [eM,<- hyv] at hm'
   exact ⟨hL m (hLy m hm'),.inl (hLy m hm')⟩
  ·rw [<- hyv]
   exact (hp _ _ (h1 w1 hw)).to h1F
 ·obtain ⟨rows,r1,r2,r3,r4⟩:=hy
  obtain ⟨b0,ja,hp0,-⟩:=hel 0 hm0
  subst hp0
  obtain ⟨gh,s1,s2⟩:=sk (m:=m) (Q:=fun i l=>l.length=sz∧(∀(k:Nat) u,l[k]?=some u->w.cell? ⟨b0,ja+i*sz+k,none⟩=some u)∧G i w (.agg l.toArray)) fun i hi=>by
   obtain ⟨b',off',hbo,l,h3,h4,h5⟩:=hel i hi
   simp only [Option.some.injEq,Addr.mk.injEq,and_true] at hbo
   obtain ⟨rfl,rfl⟩:=hbo
   exact ⟨l,h3,h4,h5⟩
  have jb:∀r,r ∈ gh->r.length=sz:=fun r hr=>by
   obtain ⟨i,hi,rfl⟩:=List.getElem_of_mem hr
   exact (s2 i _ (List.getElem?_eq_getElem hi)).1
  have hcells:∀(k:Nat) v,gh.flatten[k]?=some v->w.cell? (Addr.add ⟨b0,ja,none⟩ k)=some v:=fun k v hk=>by
   obtain ⟨i,k',r,rfl,hr,hk'⟩:=pE hsz jb hk
   have:=(s2 i r hr).2.1 k' v hk'
   rw [Addr.add_lit,<- Nat.add_assoc]
   exact this
  have hcs:∀v,v ∈ gh.flatten->v.oneCell'=true∧cL v:=fun v hv=>by
   obtain ⟨r,hr,hvr⟩:=List.mem_flatten.1 hv
   obtain ⟨i,hi,rfl⟩:=List.getElem_of_mem hr
   exact hc i w _ (s2 i _ (List.getElem?_eq_getElem hi)).2.2 v hvr
  obtain ⟨v',w',hr,ho',hg,hbl⟩:=xc t o.type hU hi hz0 hz1 hz2 hzs hsz hbb hzn r3 ⟨b0,ja,none⟩ m c0 gh.flatten (by rw [jc jb,s1]) hm0 hcells (fun v hv=>(hcs v hv).1) (fun v hv=>(hcs v hv).2) hn
  have hkp:=r3.kp hg
  have hv':∀m,v'.ownBlock=some m->L m∨m=w.heap.size:=fun m hm'=>by
   rcases hbl with h | h
   ·exact .inl (hLy m (by rw [<- h];exact hm'))
   ·rw [hm'] at h;exact .inr (Option.some.inj h)
  have hrun:=jC (o:=o) (P:=prog) ho ea (by rw [eb,hu]) hr
  refine ⟨v',w',y.ownBlock,hrun,hg,hLy,hkp,fun m k v hm' h4 h5=>?_,fun m hm'=>?_,?_⟩
  ·have hbk:=hg.block m (World.block_lt_of_cell? _ _ h4) (fun e'=>hm' m e'.symm rfl)
   refine ⟨by rw [World.cell?_of_block hbk];exact h4,?_⟩
   simp only [World.frozen?,hbk] at h5 ⊢
   exact h5
  ·rw [eM] at hm'
   refine ⟨ho'.lt m hm',?_⟩
   rcases hv' m hm' with h | h
   ·exact .inl h
   ·exact .inr (by omega)
  ·obtain ⟨p1,n1,c1,rfl⟩:∃p n c,v' = .slice p n c:=by
    rcases ho'.1.2 with ⟨h,-⟩ | ⟨_,_,_,h,-⟩ <;> exact ⟨_,_,_,h⟩
   refine cP ⟨⟨_,_,_,rfl⟩,fun _ h=>by cases h⟩ hx fun w1 hw=>?_
   refine ⟨rows ++ gh,by simp [r1,s1],fun r hr=>?_,?_,fun i r hr=>?_⟩
   ·rcases List.mem_append.1 hr with hr | hr
    ·exact r2 r hr
    ·exact jb r hr
   ·rw [List.flatten_append]
    refine ho'.keep fun m hm'=>hw.2 m (ho'.lt m hm') fun hx'=>?_
    rcases hv' m hm' with h | h
    ·exact hLX m h hx'
    ·have:=hX m hx';omega
   ·rw [List.getElem?_append] at hr
    split at hr
    ·rename_i hlt
     exact hK _ _ _ _ (hkp.trans hw.1) (h1F i _ _ (by omega) (r4 i r hr))
    ·rename_i hge
     have hlt:=(List.getElem?_eq_some_iff.1 hr).1
     have:=h1G (i-rows.length) _ _ (by omega) (s2 _ r hr).2.2
     rw [r1,show n+(i-n)=i by omega] at this
     exact hK _ _ _ _ (hkp.trans hw.1) this
end Go.Proofs.YtbjfgffibepmkaaGreat.Sym
