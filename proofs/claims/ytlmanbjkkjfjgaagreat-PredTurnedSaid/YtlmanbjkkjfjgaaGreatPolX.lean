/- Rows of whole numbers an -/
import Derived.Test.YtlmanbjkkjfjgaaGreatRefV
import Derived.Lib.AppendZerosOnto
set_option maxRecDepth 100000
namespace Go.Proofs.YtlmanbjkkjfjgaaGreat.Sym
open Go.Proofs.Tryz
open Go.RowKit
variable {i j k:Nat}{f:Nat->Int}{w:World}{v:Value}{z:Int}{l:List Value}{q:Rat}
def upto (j:Nat) (f:Nat->Int) (i:Nat):Int:=if i<j then f i else 0
theorem oh  (h:i≠j):upto (j+1) f i=upto j f i:=by unfold upto;split <;> split <;> first | rfl | omega
theorem ol (j:Nat) (f:Nat->Int):upto (j+1) f j=f j:=if_pos (Nat.lt_succ_self j)
theorem gm  (h:i<j:=by omega):upto j f i=f i:=if_pos h
theorem ak.re {k l:Nat} (h:ak w v z k) (hb:Bd z.natAbs l):ak w v z l:=⟨And.left h,hb⟩
theorem ak.zero (w:World) (k:Nat):ak w (.agg #[.bool false,.slice none 0 0]) 0 k:=⟨⟨none,0,by simp [an,gU],by simpa [an,gU] using Sl.nil w .u32⟩,by show (0:Int).natAbs<_;exact Nat.pow_pos (by omega)⟩
theorem aD.dQ  (h:aD w (.agg l.toArray) z k):∀u,u ∈ l->u.oneCell'=true∧dd u:=by
 obtain ⟨b,p,n,c,e,-⟩:=h.open;simp only [Value.agg.injEq] at e;have hl:l = [.bool b,.slice p n c]:=by have:=congrArg Array.toList e;simpa using this
 subst hl;intro u hu;simp only [List.mem_cons,List.not_mem_nil,or_false] at hu;rcases hu with rfl | rfl <;> exact ⟨rfl,λ_ _ _ e=>by cases e⟩
theorem ak.dQ  (h:ak w (.agg l.toArray) z k):∀u,u ∈ l->u.oneCell'=true∧dd u:=aD.dQ h.i
theorem aJ.dQ {b:Bool}{xs:List Nat} (h:aJ w (.agg l.toArray) b xs):∀u,u ∈ l->u.oneCell'=true∧dd u:=by
 obtain ⟨s,e,⟨p,c,rfl,-⟩,-⟩:=h;simp only [Value.agg.injEq] at e;have hl:l = [.bool b,.slice p xs.length c]:=by have:=congrArg Array.toList e;simpa using this
 subst hl;intro u hu;simp only [List.mem_cons,List.not_mem_nil,or_false] at hu;rcases hu with rfl | rfl <;> exact ⟨rfl,λ_ _ _ e=>by cases e⟩
theorem ah.dQ  (h:ah w (.agg l.toArray) q k):∀u,u ∈ l->u.oneCell'=true∧dd u:=by
 obtain ⟨p,n,c,b,p',n',c',b',e,-⟩:=h;simp only [Value.agg.injEq] at e;have hl:l = [.slice p n c,.bool b,.slice p' n' c',.bool b']:=by have:=congrArg Array.toList e;simpa using this
 subst hl;intro u hu;simp only [List.mem_cons,List.not_mem_nil,or_false] at hu;rcases hu with rfl | rfl | rfl | rfl <;> exact ⟨rfl,λ_ _ _ e=>by cases e⟩
theorem aD.cells  (h:aD w v z k):∃l:List Value,v = .agg l.toArray∧l.length=2∧∀u,u ∈ l->u.oneCell'=true∧dd u:=by obtain ⟨b,p,n,c,rfl,h2⟩:=h.open;exact ⟨[.bool b,.slice p n c],rfl,rfl,aD.dQ (l:=[.bool b,.slice p n c]) h2⟩
theorem ak.cells  (h:ak w v z k):∃l:List Value,v = .agg l.toArray∧l.length=2∧∀u,u ∈ l->u.oneCell'=true∧dd u:=aD.cells h.i
theorem ah.cells  (h:ah w v q k):∃l:List Value,v = .agg l.toArray∧l.length=4∧∀u,u ∈ l->u.oneCell'=true∧dd u:=by obtain ⟨p,n,c,b,p',n',c',b',rfl,h2⟩:=id h;exact ⟨[.slice p n c,.bool b,.slice p' n' c',.bool b'],rfl,rfl,ah.dQ (l:=[.slice p n c,.bool b,.slice p' n' c',.bool b']) h⟩
theorem infoI:(prog.info? 28).map (λi=>(i.zero,i.size,i.bytes))=some (some (.agg #[.bool false,.slice none 0 0]),2,32):=by kernel_rfl
theorem pT:(prog.info? 57).map (λi=>(i.zero,i.size,i.bytes))=some (some (.agg #[.slice none 0 0,.bool false,.slice none 0 0,.bool false]),4,64):=by kernel_rfl
theorem pU:∀u,u ∈ (Value.agg #[.bool false,.slice none 0 0]).cells.toList->dd u:=λx hx=>by have hx':x ∈ [Value.bool false,.slice none 0 0]:=hx;simp only [List.mem_cons,List.not_mem_nil,or_false] at hx';rcases hx' with rfl | rfl <;> exact λ_ _ _ e=>by cases e
theorem pV:∀u,u ∈ (Value.agg #[.slice none 0 0,.bool false,.slice none 0 0,.bool false]).cells.toList->dd u:=λx hx=>by have hx':x ∈ [Value.slice none 0 0,.bool false,.slice none 0 0,.bool false]:=hx;simp only [List.mem_cons,List.not_mem_nil,or_false] at hx';rcases hx' with rfl | rfl | rfl | rfl <;> exact λ_ _ _ e=>by cases e
section
variable {Φ:PH}{p q x n:Nat}{F:PH}
theorem mI (hp:Im Φ p (Ni (n:Int))) (hF:∀k w,F k w (.agg #[.bool false,.slice none 0 0])) (hx:Φ x=aA 2 28 F n) (hn:n<=1000000:=by omega):aj Φ prog ⟨0,[.fact p,.fact p],[oS x],.loose [] j 0 (ga 25)⟩:=by obtain ⟨i0,hi,hz0,hz1,hz2⟩:=info_parts infoI;exact vD underlying25 hi hz0 hz1 hz2 rfl pU hp hn hF hx
theorem vE (hp:Im Φ p (Ni (n:Int))) (hF:∀k w,F k w (.agg #[.slice none 0 0,.bool false,.slice none 0 0,.bool false])) (hx:Φ x=aA 4 57 F n) (hn:n<=1000000:=by omega):aj Φ prog ⟨0,[.fact p,.fact p],[oS x],.loose [] j 0 (ga 38)⟩:=by obtain ⟨i0,hi,hz0,hz1,hz2⟩:=info_parts pT;exact vD underlying38 hi hz0 hz1 hz2 rfl pV hp hn hF hx
theorem km (hF:∀i w w1 v,Kp w w1->F i w v->F i w1 v) (hp:Im Φ p (aA 2 28 F n)) (hq:Im Φ q (F n)) (hc:∀w (l:List Value),Φ q w (.agg l.toArray)->∀u,u ∈ l->u.oneCell'=true∧dd u) (hx:Φ x=aA 2 28 F (n+1)) (hn:n<=1000000:=by omega) :
  aj Φ prog ⟨0,[.fact p,.row 2 [q]],[oS x],.loose [] j 0 (cA 25 25)⟩:=by
 obtain ⟨i0,hi,hz0,hz1,hz2⟩:=info_parts infoI;exact AF underlying25 hi hz0 hz1 hz2 rfl pU hF hp hq hc hn hx
theorem mJ (hF:∀i w w1 v,Kp w w1->F i w v->F i w1 v) (hp:Im Φ p (aA 4 57 F n)) (hq:Im Φ q (F n)) (hc:∀w (l:List Value),Φ q w (.agg l.toArray)->∀u,u ∈ l->u.oneCell'=true∧dd u) (hx:Φ x=aA 4 57 F (n+1)) (hn:n<=1000000:=by omega) :
  aj Φ prog ⟨0,[.fact p,.row 4 [q]],[oS x],.loose [] j 0 (cA 38 38)⟩:=by
 obtain ⟨i0,hi,hz0,hz1,hz2⟩:=info_parts pT;exact AF underlying38 hi hz0 hz1 hz2 rfl pV hF hp hq hc hn hx
theorem eS {P:Program} (J:List Nat){f:FuncId}{args:List Arg}{outs:List Out}{bJ:Bool} (h:aj Φ P ⟨f,args,outs,.call bJ⟩):aj Φ P ⟨f,args,outs,.dR J bJ⟩:=h
theorem mK  (hp:Φ p=Nw 0 0) (Y:Nat->Prop) (w:World) (v:Value) (h:(Arg.parts (.agg [.lit (.cb false),.lit .nl]) []).ok Φ Y w v):(Arg.fact p).ok Φ Y w v:=λw1 _=>by
 rw [hp];obtain ⟨⟨us,rfl,h2⟩,_⟩:=h
 match us,h2 with
 | [v0,v1],h2=>
  obtain ⟨e0,e1,_⟩:=h2;have vF:v0 = .bool false:=e0;have e1':v1 = .slice none 0 0:=e1;subst vF;subst e1';exact ak.zero w1 0
end
end Go.Proofs.YtlmanbjkkjfjgaaGreat.Sym
namespace Go.Proofs.YtlmanbjkkjfjgaaGreat
open Go.Proofs.Tryz
open Go.RowKit
section
variable {sz n:Nat}{e:TypeId}{w w':World}{v:Value}{xs:List Value}
theorem AG (t ty:TypeId){i0:TypeInfo}{z:Value}{bytes:Nat} (hU:prog.underlying t=some (.slice e)) (hi:prog.info? e=some i0) (hz0:i0.zero=some z) (hz1:i0.size=sz) (hz2:i0.bytes=bytes) (hzs:z.cells.size=sz) (hsz:0<sz) (hbb:bytes<=1000) (hzn:∀x,x ∈ z.cells.toList->dd x)
  (h:er sz e w v n xs) (a:Addr) (m c:Nat) (news:List Value) (hl1:news.length=m*sz) (hm:0<m) (hnews:∀(j:Nat) u,news[j]?=some u->w.cell? (a.add j)=some u) (hone:∀u,u ∈ news->u.oneCell'=true) (hnn:∀u,u ∈ news->dd u) (hn:n+m<=1000000) :
  ∃v' w',(Builtin.append_ #[t,t] ty #[v,.slice (some a) m c]).run prog w = .ok v' w'∧er sz e w' v' (n+m) (xs ++ news)∧w.grownBy w' v.ownBlock∧(v'.ownBlock=v.ownBlock∨v'.ownBlock=some w.heap.size):=by
 have hby:(n+m)*bytes<=140737488355328:=Nat.le_trans (Nat.mul_le_mul hn hbb) (by decide);obtain ⟨v',w',hr,ho,hg,-,hb⟩:=run_append_own_at (P:=prog) (w:=w) 0 t ty e i0 z sz bytes hU hi hz0 hz1 hz2 hzs hsz v n xs h.1 a m c news hl1 hnews hone (by simp only [maxLen];omega) hby (by omega);refine ⟨v',w',hr,⟨ho,?_⟩,hg,hb⟩;have hL:∀x,x ∈ xs->dd x:=λx hx=>by
  rcases h.1.2 with ⟨-,h2⟩ | ⟨g,cap,cur,hv,-,hh,-,-,-,h6⟩
  ·have:=h.1.1;rw [h2,Nat.zero_mul] at this;rw [List.eq_nil_of_length_eq_zero this] at hx;cases hx
  ·rw [<- h6] at hx;exact h.2 g cur _ _ (by rw [hv];rfl) hh x (List.mem_of_mem_take hx)
 subst hz1;rcases h.1.2 with ⟨rfl,h2⟩ | ⟨g,cap,cur,rfl,hb',hh,h3,h4,h5,h6⟩
 ·subst h2;have hr2:=run_append_nil (P:=prog) (w:=w) t ty e i0 z hU hi hz0 a m c news hl1 hnews (by omega) (by omega) (by rw [hz2];have hb:=hby;simp only [Nat.zero_add] at hb;omega);rw [hr] at hr2;injection hr2 with e1 e2
  subst e1 e2;intro g cur e' q hgg gf x hx;simp only [Value.ownBlock,Option.some.injEq] at hgg;subst hgg;rw [show w.heap.size=w.drew.heap.size from rfl,heap_alloc_new] at gf;cases gf;simp only [Array.toList_append,List.mem_append] at hx;rcases hx with hx | hx
  ·exact hnn x (by simpa using hx)
  ·exact lm hzn (by omega) _ x hx
 ·by_cases hroom:n+m<=cap
  ·have hfit:n*i0.size+news.length<=cur.size:=by
    rw [h5,hl1,<- Nat.add_mul];exact Nat.mul_le_mul_right _ hroom
   have hr2:=run_append_room (P:=prog) (w:=w) t ty e i0 hU hi g n cap cur hh a m c news hl1 hnews hone hroom hfit;rw [hr] at hr2;injection hr2 with e1 e2
   subst e1 e2;intro g' cur' e' q hgg gf x hx;simp only [Value.ownBlock,Option.some.injEq] at hgg;subst hgg;rw [setRow_heap w g cur _ _ _ hh] at gf;cases gf;simp only [List.mem_append] at hx;rcases hx with (hx | hx) | hx
   ·exact h.2 g cur _ _ rfl hh x (List.mem_of_mem_take hx)
   ·exact hnn x hx
   ·exact h.2 g cur _ _ rfl hh x (List.mem_of_mem_drop hx)
  ·have holds:∀(j:Nat) u,xs[j]?=some u->w.cell? (Addr.add ⟨g,0,none⟩ j)=some u:=h.1.cells (g:=g) rfl;have hr2:=run_append_grow (P:=prog) (w:=w) t ty e i0 z hU hi hz0 ⟨g,0,none⟩ n cap xs h.1.1 holds a m c news hl1 hnews (by omega) (by omega) (growslice_fits (by omega) (by rw [hz2];exact hby));rw [hr] at hr2;injection hr2 with e1 e2
   subst e1 e2;intro g' cur' e' q hgg gf x hx;simp only [Value.ownBlock,Option.some.injEq] at hgg;subst hgg;rw [show w.heap.size=w.drew.heap.size from rfl,heap_alloc_new] at gf;cases gf;simp only [Array.toList_append,List.mem_append] at hx;rcases hx with (hx | hx) | hx
   ·exact hL x (by simpa using hx)
   ·exact hnn x (by simpa using hx)
   ·exact lm hzn (by omega) _ x hx
end
theorem vH {Q:Nat->List Value->Prop}:∀{m:Nat},(∀i,i<m->∃l,Q i l)->∃rows:List (List Value),rows.length=m∧∀i r,rows[i]?=some r->Q i r
 | 0,_=>⟨[],rfl,λ_ _ h=>by simp at h⟩
 | m+1,h=>by
  obtain ⟨rows,h1,h2⟩:=vH (m:=m) λi hi=>h i (by omega);obtain ⟨l,hl⟩:=h m (by omega);refine ⟨rows ++ [l],by simp [h1],λi r hr=>?_⟩;rw [List.getElem?_append] at hr;split at hr
  ·exact h2 i r hr
  ·have:=(List.getElem?_eq_some_iff.1 hr).1;simp at this;obtain rfl:i=m:=by omega
   rw [h1,Nat.sub_self] at hr;simp at hr;exact hr▸hl
theorem sa {sz:Nat} (hs:0<sz):∀{rows:List (List Value)},(∀r,r ∈ rows->r.length=sz)->∀{j:Nat}{u:Value},rows.flatten[j]?=some u->∃i k r,j=i*sz+k∧rows[i]?=some r∧r[k]?=some u
 | [],_,j,u,h=>by simp at h
 | r :: rows,hl,j,u,h=>by
  have h0:=hl r (List.mem_cons_self ..);rw [List.flatten_cons,List.getElem?_append] at h;split at h
  ·exact ⟨0,j,r,by omega,rfl,h⟩
  ·obtain ⟨i,k,r',h1,h2,h3⟩:=sa hs (λr hr=>hl r (List.mem_cons_of_mem _ hr)) h;exact ⟨i+1,k,r',by rw [Nat.succ_mul];omega,by simpa using h2,h3⟩
end Go.Proofs.YtlmanbjkkjfjgaaGreat
namespace Go.Proofs.YtlmanbjkkjfjgaaGreat.Sym
open Go.Proofs.Tryz
open Go.RowKit
variable {F Φ:PH}{K N i k m n n0 p q sz x:Nat}{e:TypeId}{ez f z:Nat->Int}{P:Program}{w:World}{v:Value}{b:Bool}{xs:List Nat}{l:List Value}{y:Int}{a:Nat->Bool}{L:List Int}
theorem sb {j:Nat}{t:TypeId}{G F':PH}{i0:TypeInfo}{z:Value}{bytes:Nat} (hU:prog.underlying t=some (.slice e)) (hi:prog.info? e=some i0) (hz0:i0.zero=some z) (hz1:i0.size=sz) (hz2:i0.bytes=bytes) (hzs:z.cells.size=sz) (hzn:∀x,x ∈ z.cells.toList->dd x)
  (hK:∀i w w1 v,Kp w w1->F' i w v->F' i w1 v) (hp:Im Φ p (aA sz e F n)) (hq:Im Φ q (Rw sz G m)) (h1F:∀i w v,i<n->F i w v->F' i w v) (h1G:∀i w v,i<m->G i w v->F' (n+i) w v) (hc:∀i w (l:List Value),G i w (.agg l.toArray)->∀u,u ∈ l->u.oneCell'=true∧dd u) (hn:n+m<=1000000) (hx:Φ x=aA sz e F' (n+m)) (hsz:0<sz:=by omega) (hbb:bytes<=1000:=by omega) :
  aj Φ prog ⟨0,[.fact p,.fact q],[oS x],.loose [] j 0 (cA t t)⟩:=λX L w ac o ys hX hL hLX hm ha hb _=>by
 obtain ⟨y,u,hys⟩:∃y u,ys.map ac.eval = [y,u]:=by
  match ys.map ac.eval,ha with
  | [y,u],_=>exact ⟨y,u,rfl⟩
 rw [show List.map ac.eval ys = [y,u] from hys] at ha;obtain ⟨a,b,ho,rfl,ea,eb⟩:=om hm hys;obtain ⟨h1,h2,-⟩:=ha;have hy:=hp _ _ (h1 w (Off.refl _ _));obtain ⟨p0,c0,hu,hc0,hel⟩:=hq _ _ (h2 w (Off.refl _ _));have hLy:∀m,y.ownBlock=some m->L m:=λm hm'=>hb a m rfl (by rw [ea,fp];exact hm');rcases Nat.eq_zero_or_pos m with hm0 | hm0
 ·subst hm0;obtain ⟨py,cy,hyv,hcy,-⟩:=hy.rw;have hr:=vC (P:=prog) (w:=w) t o.type e i0 hU hi py p0 n cy c0 hcy;have hrun:=lp (o:=o) (P:=prog) ho (by rw [ea,hyv]) (by rw [eb,hu]) hr;refine ⟨.slice py n cy,w,none,hrun,bH w none,(λ_ h=>by cases h),Kp.refl _,(λ_ _ _ _ h4 h5=>⟨h4,h5⟩),λm hm'=>?_,cP ⟨⟨_,_,_,rfl⟩,λ_ h=>by cases h⟩ hx λw1 hw=>?_⟩
  ·rw [fp,<- hyv] at hm';exact ⟨hL m (hLy m hm'),.inl (hLy m hm')⟩
  ·rw [<- hyv];exact (hp _ _ (h1 w1 hw)).to h1F
 ·obtain ⟨rows,r1,r2,r3,r4⟩:=hy;obtain ⟨b0,ko,hp0,-⟩:=hel 0 hm0;subst hp0;obtain ⟨ie,s1,s2⟩:=vH (m:=m) (Q:=λi l=>l.length=sz∧(∀(k:Nat) u,l[k]?=some u->w.cell? ⟨b0,ko+i*sz+k,none⟩=some u)∧G i w (.agg l.toArray)) λi hi=>by
   obtain ⟨b',off',hbo,l,h3,h4,h5⟩:=hel i hi;simp only [Option.some.injEq,Addr.mk.injEq,and_true] at hbo;obtain ⟨rfl,rfl⟩:=hbo;exact ⟨l,h3,h4,h5⟩
  have kw:∀r,r ∈ ie->r.length=sz:=λr hr=>by obtain ⟨i,hi,rfl⟩:=List.getElem_of_mem hr;exact (s2 i _ (List.getElem?_eq_getElem hi)).1
  have hcells:∀(k:Nat) v,ie.flatten[k]?=some v->w.cell? (Addr.add ⟨b0,ko,none⟩ k)=some v:=λk v hk=>by obtain ⟨i,k',r,rfl,hr,hk'⟩:=sa hsz kw hk;have:=(s2 i r hr).2.1 k' v hk';rw [Addr.add_lit,<- Nat.add_assoc];exact this
  have hcs:∀v,v ∈ ie.flatten->v.oneCell'=true∧dd v:=λv hv=>by obtain ⟨r,hr,hvr⟩:=List.mem_flatten.1 hv;obtain ⟨i,hi,rfl⟩:=List.getElem_of_mem hr;exact hc i w _ (s2 i _ (List.getElem?_eq_getElem hi)).2.2 v hvr
  obtain ⟨v',w',hr,ho',hg,hbl⟩:=AG t o.type hU hi hz0 hz1 hz2 hzs hsz hbb hzn r3 ⟨b0,ko,none⟩ m c0 ie.flatten (by rw [kA kw,s1]) hm0 hcells (λv hv=>(hcs v hv).1) (λv hv=>(hcs v hv).2) hn;have hkp:=r3.kp hg;have hv':∀m,v'.ownBlock=some m->L m∨m=w.heap.size:=λm hm'=>by
   rcases hbl with h | h
   ·exact .inl (hLy m (by rw [<- h];exact hm'))
   ·rw [hm'] at h;exact .inr (Option.some.inj h)
  have hrun:=lp (o:=o) (P:=prog) ho ea (by rw [eb,hu]) hr;refine ⟨v',w',y.ownBlock,hrun,hg,hLy,hkp,λm k v hm' h4 h5=>?_,λm hm'=>?_,?_⟩
  ·have hbk:=hg.block m (World.block_lt_of_cell? _ _ h4) (λe'=>hm' m e'.symm rfl);refine ⟨by rw [World.cell?_of_block hbk];exact h4,?_⟩;simp only [World.frozen?,hbk] at h5 ⊢;exact h5
  ·rw [fp] at hm';refine ⟨ho'.lt m hm',?_⟩;rcases hv' m hm' with h | h
   ·exact .inl h
   ·exact .inr (by omega)
  ·obtain ⟨p1,n1,c1,rfl⟩:∃p n c,v' = .slice p n c:=by
    rcases ho'.1.2 with ⟨h,-⟩ | ⟨_,_,_,h,-⟩ <;> exact ⟨_,_,_,h⟩
   refine cP ⟨⟨_,_,_,rfl⟩,λ_ h=>by cases h⟩ hx λw1 hw=>?_;refine ⟨rows ++ ie,by simp [r1,s1],λr hr=>?_,?_,λi r hr=>?_⟩
   ·rcases List.mem_append.1 hr with hr | hr
    ·exact r2 r hr
    ·exact kw r hr
   ·rw [List.flatten_append];refine ho'.keep λm hm'=>hw.2 m (ho'.lt m hm') λhx'=>?_;rcases hv' m hm' with h | h
    ·exact hLX m h hx'
    ·have:=hX m hx';omega
   ·rw [List.getElem?_append] at hr;split at hr
    ·rename_i hlt;exact hK _ _ _ _ (hkp.trans hw.1) (h1F i _ _ (by omega) (r4 i r hr))
    ·rename_i hge;have hlt:=(List.getElem?_eq_some_iff.1 hr).1;have:=h1G (i-rows.length) _ _ (by omega) (s2 _ r hr).2.2;rw [r1,show n+(i-n)=i by omega] at this;exact hK _ _ _ _ (hkp.trans hw.1) this
def vI (T:TypeId):Op->Option (List Operand)
 | .slice t x none (some h) (some g)=>if t=T then some [x,h,g] else none
 | _=>none
theorem Mm {q':Nat}{T:TypeId} (hT:P.underlying T=some (.slice e)) (hp:Im Φ p (Rw sz F n)) (hq:Im Φ q (Ni (n:Int))) (hq':∀w v,Φ q' w v->v = .int .i64 (n:Int)) (hx:Φ x=Rw sz F n) (hz:dU P e=some sz:=by kernel_rfl):aj Φ P ⟨0,[.fact p,.fact q,.fact q'],[oS x],.quiet (vI T)⟩:=λX w ac o xs _ hm ha=>by
 unfold vI at hm;split at hm
 case h_2=>cases hm
 rename_i t y z z' ho;split at hm
 case isFalse=>cases hm
 rename_i ht;subst ht;simp only [Option.some.injEq] at hm;subst hm;obtain ⟨s,c,hv,hc,he⟩:=hp _ _ (ha.1 w (Off.refl _ _));have hi2:=hq _ _ (ha.2.1 w (Off.refl _ _));have hi3:=hq' _ _ (ha.2.2.1 w (Off.refl _ _));refine ⟨.slice s n n,w,?_,bH w none,⟨⟨⟨⟨_,_,_,rfl⟩,λ_ h=>by cases h⟩,λr hr w1 hw=>?_⟩,trivial⟩⟩
 ·unfold execOp;have h0:(0:Int)<=(n:Int):=Int.natCast_nonneg n;have h1:(n:Int)<=(c:Int):=by omega
  have h2:(n:Int)<=(n:Int):=by omega
  have ha0:(s.map λy=>y.add 0)=s:=by cases s <;> simp [Addr.add_zero']
  simp only [ho,Option.map_none,Option.map_some,hv,hi2,hi3];simp [Instr.sliceAt,Instr.slice,run_underlying hT,Instr.sliceBounds,run_sliceBound (P:=P) w .i64 (n:Int) c .slice3Acap h0 h1,run_sliceBound (P:=P) w .i64 (n:Int) n .slice3B h0 h2,run_sizeOf hz,ha0]
 ·simp only [List.mem_singleton] at hr;subst hr;show Φ x w1 _;rw [hx];obtain ⟨s',c',hv',_,he'⟩:=hp _ _ (ha.1 w1 hw);rw [hv] at hv';simp only [Value.slice.injEq,true_and] at hv';obtain ⟨rfl,rfl⟩:=hv';exact ⟨s,n,rfl,Nat.le_refl _,he'⟩
theorem CU {z:Int} (h:cK z 0=0):z=0:=by
 unfold cK at h;split at h
 ·cases h
 ·split at h
  ·assumption
  ·cases h
def mg (Ψ Φ:PH):List (Nat×Nat×Nat)->List (Nat×Nat×Nat)->Prop
 | [],[]=>True
 | a :: l,b :: m=>(a.1=b.1∧a.2.1=b.2.1∧∀w v,Ψ a.2.2 w v->Φ b.2.2 w v)∧mg Ψ Φ l m
 | _,_=>False
theorem mg.ok {Φ Ψ:PH}{X:Nat->Prop}{w:World}{v:Value}:∀{l m:List (Nat×Nat×Nat)},mg Ψ Φ l m->(∀q,q ∈ l->∀w1,Off X w w1->Ψ q.2.2 w1 (bS q.1 q.2.1 v))->∀q,q ∈ m->∀w1,Off X w w1->Φ q.2.2 w1 (bS q.1 q.2.1 v)
 | [],[],_,_,q,hq,_,_=>by cases hq
 | a :: l,b :: m,h,ha,q,hq,w1,hw=>by
  rcases List.mem_cons.1 hq with rfl | hq
  ·have:=ha a (List.mem_cons_self ..) w1 hw;rw [<- h.1.1,<- h.1.2.1];exact h.1.2.2 _ _ this
  ·exact mg.ok h.2 (λq hq=>ha q (List.mem_cons_of_mem _ hq)) q hq w1 hw
def pm (Φ Ψ:PH) (p:Nat):List (Nat×Nat×Nat)->Prop
 | []=>True
 | q :: l=>(∀w v,Φ p w v->Ψ q.2.2 w (bS q.1 q.2.1 v))∧pm Φ Ψ p l
theorem pm.ok {Φ Ψ:PH}{p:Nat}:∀{l:List (Nat×Nat×Nat)},pm Φ Ψ p l->∀q,q ∈ l->∀w v,Φ p w v->Ψ q.2.2 w (bS q.1 q.2.1 v)
 | _ :: l,h,q,hq=>by
  rcases List.mem_cons.1 hq with rfl | hq
  ·exact h.1
  ·exact pm.ok h.2 q hq
def fr (Φ Ψ:PH):List Arg->List Arg->Prop
 | [],[]=>True
 | .fact p :: l,.fact q :: m=>(∀w v,Φ p w v->Ψ q w v)∧fr Φ Ψ l m
 | .lit a :: l,.lit b :: m=>a=b∧fr Φ Ψ l m
 | .lit a :: l,.fact q :: m=>(∀w,Ψ q w (a.ev da))∧fr Φ Ψ l m
 | .any :: l,.any :: m=>fr Φ Ψ l m
 | .parts sh fs :: l,.parts sh' fs' :: m=>(sh=sh'∧mg Φ Ψ fs fs')∧fr Φ Ψ l m
 | .fact p :: l,.parts sh fs :: m=>((∀w v,Φ p w v->sh.is v)∧pm Φ Ψ p fs)∧fr Φ Ψ l m
 | _,_=>False
def nF (Ψ Φ:PH):List Out->List Out->Prop
 | [],[]=>True
 | a :: l,b :: m=>(a.sh=b.sh∧mg Ψ Φ a.fs b.fs)∧nF Ψ Φ l m
 | _,_=>False
theorem fr.ok {Φ Ψ:PH}{X:Nat->Prop}{w:World}:∀{l m:List Arg}{vs:List Value},fr Φ Ψ l m->cX Φ X w l vs->cX Ψ X w m vs
 | [],[],[],_,_=>trivial
 | .fact _ :: _,.fact _ :: _,_ :: _,h,ha=>⟨λw1 hw=>h.1 _ _ (ha.1 w1 hw),fr.ok h.2 ha.2⟩
 | .lit _ :: _,.lit _ :: _,_ :: _,h,ha=>⟨h.1▸ha.1,fr.ok h.2 ha.2⟩
 | .any :: _,.any :: _,_ :: _,h,ha=>⟨trivial,fr.ok h ha.2⟩
 | .lit _ :: _,.fact _ :: _,_ :: _,h,ha=>⟨λw1 _=>by rw [show _=_ from ha.1];exact h.1 w1,fr.ok h.2 ha.2⟩
 | .parts _ _ :: _,.parts _ _ :: _,_ :: _,h,ha=>⟨⟨h.1.1▸ha.1.1,mg.ok h.1.2 ha.1.2⟩,fr.ok h.2 ha.2⟩
 | .fact _ :: _,.parts _ _ :: _,_ :: _,h,ha=>⟨⟨h.1.1 _ _ (get ha.1),λq hq w1 hw=>pm.ok h.1.2 q hq w1 _ (ha.1 w1 hw)⟩,fr.ok h.2 ha.2⟩
theorem nF.ok {Φ Ψ:PH}{X:Nat->Prop}{w:World}:∀{l m:List Out}{us:List Value},nF Ψ Φ l m->cG Ψ X w l us->cG Φ X w m us
 | [],[],[],_,_=>trivial
 | _ :: _,_ :: _,_ :: _,h,ha=>⟨⟨h.1.1▸ha.1.1,mg.ok h.1.2 ha.1.2⟩,nF.ok h.2 ha.2⟩
theorem aU {Ψ:PH}{f:FuncId}{ar rm:List Arg}{outs rn:List Out}{bJ:Bool} (h:aj Ψ P ⟨f,rm,rn,.call bJ⟩) (ha:fr Φ Ψ ar rm) (ho:nF Ψ Φ rn outs):aj Φ P ⟨f,ar,outs,.call bJ⟩:=
 λX w vs hX h'=>(h X w vs hX (ha.ok h')).mono λ_ _ ⟨hg,us,he,h2⟩=>⟨hg,us,he,ho.ok h2⟩
def yE (F:PH) (z:Nat->Int) (n0:Nat):List WP:=[Rw 2 F n0,Nz n0,Ni ((tl z n0:Nat):Int),Rw 2 F (tl z n0)]
def Ze (F:PH) (z:Nat->Int) (n0:Nat) (j:Nat):List WP:=[Nz (n0-j),Nz (n0-(j+1)),Ptr 2 (F (n0-(j+1))),F (n0-(j+1)),Nw 0 0,Ni (cK (z (n0-(j+1))) (0:Int)),Nz (n0-(j+1))]
def Il:bp:=⟨[0,2,4,5],[(.slot 3,.i)],[(.one 0,4)],[.frm 1],4,[(4,2)]⟩
def adV:List Step:=[.derive (.agg [.cb false,.nl]) (.agg [.lit (.cb false),.lit (.nl)]) [] 8,bQ [4,.lit (Ai 0)] oT (am .gtr),bQ [4,.lit (Ai 1)] [oN 5] (am .sub),bQ [0,5] [oP 6] (adK 25),bQ [6] [oI 7] (aQ 28),
   cB 113 [7,8] [oN 9],bQ [9,.lit (Ai 0)] oT (am .eql),bQ [4,.lit (Ai 1)] [oN 10] (am .sub)]
def adP:List Step:=[bQ [4,.lit (Ai 0)] oF (am .gtr)]
def Zg:List Step:=[bQ [0] [oN 1] (aC 25),.loop Il [(adV,[.frm 10])] adP,bQ [0,2] [oS 3] (eL 25)]
def Zh:List Out:=[oS 0]
theorem Zi  (hF:∀i w v,F i w v->aD w v (z i) k) (hK:∀i w w1 v,Kp w w1->F i w v->F i w1 v) (hn:n0<=1000000) (hk:k<=500000) (ht:tl z n0=0):aj (ph (yE F z n0)) prog ⟨69,[0],[oS 3],false⟩:=by
 have hle:=bg z n0;exact adL Zh [oS 3] Zg func69 (by kernel_rfl) (lB (aM (F:=F) underlying25 ad rfl) (bN (counted (n0-tl z n0) (λj=>ph (yE F z n0 ++ Ze F z n0 j)) (λ_=>0) (λ_ p hp=>bO (show p<(yE F z n0).length from hp)) ⟨ad,trivial⟩ (λj _=>by
   have h0:z (n0-(j+1))=0:=gH z n0 _ (by omega) (by omega);exact ⟨(adV,[.frm 10]),rfl,⟨ad,trivial⟩,(bk (mK rfl) (lB (gG ad) (lB (cO ad rfl) (lB (bw (i:=(n0-(j+1))) (F:=F) underlying25 ad ad rfl) (lB (bT (sz:=2) (F:=F (n0-(j+1))) ad (λw w1 v g h=>hK (n0-(j+1)) w w1 v g h) (λw v h=>aD.is (hF (n0-(j+1)) w v h)) rfl) (lB (na (hF (n0-(j+1))) nI rfl rfl) (lB (cn (op:=.eql) ad (bz (decide_eq_true (by rw [h0];rfl)) (by simp))) (lB (cO ad rfl) au))))))))⟩)
   (by
   have hle:=bg z n0;exact (lB (lu ad) au))
   (poC (λ_ _ h=>(λh=>h.trans (congrArg (Value.int .i64) (by have:=bg z n0;omega))) h) poN)) (lB (oM (m:=(tl z n0)) (n:=n0) (F:=F) underlying25 ad ad (by first | omega | exact bg _ _) rfl) au)))
  (aP [.fact 0 (.one (.s))] ⟨Rw.Is 2 F n0,trivial⟩) aV
def yF (F:PH) (z:Nat->Int) (n0:Nat):List WP:=[Rw 2 F n0,Nz n0,Ni ((tl z n0:Nat):Int),Rw 2 F (tl z n0)]
def Zj (F:PH) (z:Nat->Int) (n0:Nat) (j:Nat):List WP:=[Nz (n0-j),Nz (n0-(j+1)),Ptr 2 (F (n0-(j+1))),F (n0-(j+1)),Nw 0 0,Ni (cK (z (n0-(j+1))) (0:Int)),Nz (n0-(j+1)),Nz (tl z n0-1),Ptr 2 (F (tl z n0-1)),F (tl z n0-1),Nw 0 0,Ni (cK (z (tl z n0-1)) (0:Int))]
def In:bp:=⟨[0,2,4,5],[(.slot 3,.i)],[(.one 0,4)],[.frm 1],4,[(4,2)]⟩
def Io:List Step:=[.derive (.agg [.cb false,.nl]) (.agg [.lit (.cb false),.lit (.nl)]) [] 8,bQ [4,.lit (Ai 0)] oT (am .gtr),bQ [4,.lit (Ai 1)] [oN 5] (am .sub),bQ [0,5] [oP 6] (adK 25),bQ [6] [oI 7] (aQ 28),
   cB 113 [7,8] [oN 9],bQ [9,.lit (Ai 0)] oT (am .eql),bQ [4,.lit (Ai 1)] [oN 10] (am .sub)]
def Zk:List Step:=[.derive (.agg [.cb false,.nl]) (.agg [.lit (.cb false),.lit (.nl)]) [] 14,bQ [4,.lit (Ai 0)] oT (am .gtr),bQ [4,.lit (Ai 1)] [oN 11] (am .sub),bQ [0,11] [oP 12] (adK 25),bQ [12] [oI 13] (aQ 28),
   cB 113 [13,14] [oN 15],bQ [15,.lit (Ai 0)] oF (am .eql)]
def Zm:List Step:=[bQ [0] [oN 1] (aC 25),.loop In [(Io,[.frm 10])] Zk,bQ [0,2] [oS 3] (eL 25)]
def Zn:List Out:=[oS 0]
theorem Zo  (hF:∀i w v,F i w v->aD w v (z i) k) (hK:∀i w w1 v,Kp w w1->F i w v->F i w1 v) (hn:n0<=1000000) (hk:k<=500000) (ht:0<tl z n0):aj (ph (yF F z n0)) prog ⟨69,[0],[oS 3],false⟩:=by
 have hle:=bg z n0;exact adL Zn [oS 3] Zm func69 (by kernel_rfl) (lB (aM (F:=F) underlying25 ad rfl) (bN (counted (n0-tl z n0) (λj=>ph (yF F z n0 ++ Zj F z n0 j)) (λ_=>0) (λ_ p hp=>bO (show p<(yF F z n0).length from hp)) ⟨ad,trivial⟩ (λj _=>by
   have h0:z (n0-(j+1))=0:=gH z n0 _ (by omega) (by omega);exact ⟨(Io,[.frm 10]),rfl,⟨ad,trivial⟩,(bk (mK rfl) (lB (gG ad) (lB (cO ad rfl) (lB (bw (i:=(n0-(j+1))) (F:=F) underlying25 ad ad rfl) (lB (bT (sz:=2) (F:=F (n0-(j+1))) ad (λw w1 v g h=>hK (n0-(j+1)) w w1 v g h) (λw v h=>aD.is (hF (n0-(j+1)) w v h)) rfl) (lB (na (hF (n0-(j+1))) nI rfl rfl) (lB (cn (op:=.eql) ad (bz (decide_eq_true (by rw [h0];rfl)) (by simp))) (lB (cO ad rfl) au))))))))⟩)
   (by
   have hle:=bg z n0;have hl:=fG z n0 ht;exact (bk (mK rfl) (lB (gG ad) (lB (cO ad rfl) (lB (bw (i:=(tl z n0-1)) (F:=F) underlying25 ad ad rfl) (lB (bT (sz:=2) (F:=F (tl z n0-1)) ad (λw w1 v g h=>hK (tl z n0-1) w w1 v g h) (λw v h=>aD.is (hF (tl z n0-1) w v h)) rfl) (lB (na (hF (tl z n0-1)) nI rfl rfl) (lB (cn (op:=.eql) ad (bz (decide_eq_false (λh=>hl (CU h))) (by simp))) au))))))))
   (poC (λ_ _ h=>(λh=>h.trans (congrArg (Value.int .i64) (by have:=bg z n0;omega))) h) poN)) (lB (oM (m:=(tl z n0)) (n:=n0) (F:=F) underlying25 ad ad (by first | omega | exact bg _ _) rfl) au)))
  (aP [.fact 0 (.one (.s))] ⟨Rw.Is 2 F n0,trivial⟩) aV
section
theorem iz (hp:Im Φ p (Rw 2 F n)) (hF:∀i w v,F i w v->aD w v (z i) k) (hK:∀i w w1 v,Kp w w1->F i w v->F i w1 v) (hx:Φ x=Rw 2 F (tl z n)) (hn:n<=1000000:=by omega) (hk:k<=500000:=by omega):aj Φ prog ⟨69,[.fact p],[oS x],false⟩:=by
 rcases Nat.eq_zero_or_pos (tl z n) with h | h
 ·exact aU (Zi hF hK hn hk h) ⟨hp,trivial⟩ ⟨⟨rfl,⟨rfl,rfl,λ_ _ h=>hx▸h⟩,trivial⟩,trivial⟩
 ·exact aU (Zo hF hK hn hk h) ⟨hp,trivial⟩ ⟨⟨rfl,⟨rfl,rfl,λ_ _ h=>hx▸h⟩,trivial⟩,trivial⟩
end
def yG (z:Nat->Int) (n:Nat):List WP:=[λw v=>Rw 1 (λi _ v=>v = .agg #[.int .i64 (z i)]) n w v,Nz n,aA 2 28 (Nf (upto 0 z) 2) n,Nz n,aA 2 28 (Nf (upto n z) 2) n,Rw 2 (Nf (upto n z) 2) (tl (upto n z) n)]
def Zp (z:Nat->Int) (n:Nat) (j:Nat):List WP:=[Nz j,aA 2 28 (Nf (upto j z) 2) n,λ_ _=>True,λw v=>Ptr 1 (λ_ v=>v = .agg #[.int .i64 (z j)]) w v,Ni (z j),Nw (z j) 2,At 2,Ptr 2 (Nw ((upto j z) j) 2),aA 2 28 (Nf (upto (j+1) z) 2) n,Nz (j+1)]
def Ip:bp:=⟨[0,2,6,7,8,9,10],[(.slot 11,.i),(.slot 3,.s)],[(.one 0,6),(.one 1,.cM [1] 7),(.one 1,.lo 1)],[.closed (.one (Ai 0)),.frm 2,.frm 0],6,[(7,4)]⟩
def Iq:List Step:=[bQ [6,3] oT (am .lss),bQ [0,6] [oP 9] (adK 22),bQ [9] [oN 10] (aQ 3),
   cB 68 [10] [oI 11],.base ⟨0,[7,6],[oP 13],.joint [1] 12 (adK 25)⟩,.base ⟨0,[7,6,.any,11],[oS 14],.put [] 1 0 12 (fE 28 (.tmp 16) (.tmp 17))⟩,bQ [6,.lit (Ai 1)] [oN 15] (am .add)]
def Zq:List Step:=[bQ [6,3] oF (am .lss)]
def Zs:List Step:=[bQ [0] [oN 1] (aC 22),.base ⟨0,[1,1],[oS 2],.loose [] 1 0 (ga 25)⟩,bQ [0] [oN 3] (aC 22),.loop Ip [(Iq,[.frm 15,.frm 14,.frm 0])] Zq,.base ⟨69,[4],[oS 5],.dR [1] false⟩]
def Zt:List Out:=[oS 0]
theorem pof  (hn:n<=1000000) (hz:∀i,-9223372036854775808<=z i∧z i<=9223372036854775807):aj (ph (yG z n)) prog ⟨38,[0],[oS 5],false⟩:=adL Zt [oS 5] Zs func38 (by kernel_rfl) (lB (aM (F:=(λi _ v=>v = .agg #[.int .i64 (z i)])) underlying22 ad rfl) (lB (mI (n:=n) (F:=(Nf (upto 0 z) 2)) ad (λ_ w=>ak.zero w 2) rfl) (lB (aM (F:=(λi _ v=>v = .agg #[.int .i64 (z i)])) underlying22 ad rfl) (bN (counted n (λj=>ph (yG z n ++ Zp z n j)) (λ_=>0) (λ_ p hp=>bO (show p<(yG z n).length from hp)) ⟨λ_=>rfl,ad,bI,trivial⟩ (λj _=>by
   skip
   exact ⟨(Iq,[.frm 15,.frm 14,.frm 0]),rfl,⟨ad,ad,bI,trivial⟩,(lB (bK ad ad) (lB (bw (i:=j) (F:=(λi _ v=>v = .agg #[.int .i64 (z i)])) underlying22 ad ad rfl) (lB (ym ad rfl) (lB (Zu ad rfl (by have:=hz j;omega) (by have:=hz j;omega) rfl) (lB (fO (i:=j) (sz:=2) (n:=n) (F:=(Nf (upto j z) 2)) underlying25 (λ_ _ h=>aA.arr h) ad rfl rfl) (lB (ij (i:=j) (n:=n) (F:=(λi w v=>ak w v ((upto j z) i) 2)) (F':=(λi w v=>ak w v ((upto (j+1) z) i) 2)) (G:=Nw (z j) 2) (.tmp 16) (.tmp 17) ad ad ad rfl (λ_ _ h=>ak.cells h) (λ_ _ _ _ g h=>ak.kp h g) (λ_ _ _ g h=>ak.kp h g) (λ_ _ _ hi h=>by rw [oh hi];exact h) (λ_ _ h=>by rw [ol];exact h) rfl) (lB (ch ad rfl) au)))))))⟩) (lB (tlF ad ad) au)
   (poC (λ_ _ h=>(λh=>h) h) poN)) (lB (eS [1] (iz (z:=(upto n z)) (n:=n) (k:=2) (F:=(Nf (upto n z) 2)) (λ_ _ h=>aA.rw h) (λ_ _ _ h=>ak.i h) (λ_ _ _ _ g h=>ak.kp h g) rfl)) au)))))
  (aP [.fact 0 (.one (.s))] ⟨Rw.Is 1 (λi _ v=>v = .agg #[.int .i64 (z i)]) n,trivial⟩) aV
def Zv (z:Nat->Int) (n k:Nat) (i:Nat):List WP:=[Rw 2 (If z k) n,Nz i,Nz n,Ptr 2 (Iw (z i) k),Iw (z i) k]
def Zw:List Step:=[bQ [0] [oN 2] (aC 25),bQ [1,2] oT (am .lss),bQ [0,1] [oP 3] (adK 25),bQ [3] [oI 4] (aQ 28)]
def Zx:List Out:=[oS 0,oN 1]
theorem Zy  (hi:i<n):aj (ph (Zv z n k i)) prog ⟨120,[0,1],[oI 4],false⟩:=adL Zx [oI 4] Zw func120 (by kernel_rfl) (lB (aM (F:=(If z k)) underlying25 ad rfl) (lB (bK ad ad) (lB (bw (i:=i) (F:=(If z k)) underlying25 ad ad rfl) (lB (bT (sz:=2) (F:=Iw (z i) k) ad (λ_ _ _ g h=>aD.kp h g) (λ_ _ h=>aD.is h) rfl) au))))
  (aP [.fact 0 (.one (.s)),.fact 1 (.one (.i))] ⟨Rw.Is 2 (If z k) n,λ_ _ h=>h▸cY _,trivial⟩) (λ_ _ _ h=>h)
def Zz (z:Nat->Int) (n k:Nat) (i:Nat):List WP:=[Rw 2 (If z k) n,Nz i,Nz n]
def ZA:List Step:=[bQ [0] [oN 2] (aC 25),bQ [1,2] oF (am .lss)]
def ZB:List Out:=[oS 0,oN 1]
theorem ZE  (hi:n<=i):aj (ph (Zz z n k i)) prog ⟨120,[0,1],[⟨.agg [.lit (.cb false),.lit (.nl)],[]⟩],false⟩:=adL ZB [⟨.agg [.lit (.cb false),.lit (.nl)],[]⟩] ZA func120 (by kernel_rfl) (lB (aM (F:=(If z k)) underlying25 ad rfl) (lB (tlF ad ad) au))
  (aP [.fact 0 (.one (.s)),.fact 1 (.one (.i))] ⟨Rw.Is 2 (If z k) n,λ_ _ h=>h▸cY _,trivial⟩) (λ_ _ _ h=>h)
theorem Ir  (h:i<n):upto n f i=ae (aw (mk n f)) i:=by rw [ig,cU,gm (h:=h),if_pos h]
theorem ZF (n:Nat) (f:Nat->Int):tl (upto n f) n=(aw (mk n f)).length:=by rw [fF];exact sN λ_ hi=>gm (h:=hi)
theorem rh  (h:Rw 2 (Nf (upto n f) k) (tl (upto n f) n) w v):Rw 2 (Nf (ae (aw (mk n f))) k) (aw (mk n f)).length w v:=
 Rw.len (Rw.to h λ_ w v hi h=>by show ak w v _ k;rw [<- Ir (Nat.lt_of_lt_of_le hi (bg _ _))];exact h) (ZF n f)
section
variable {t:Int}
theorem wB {zs:List Int} (hp:∀w v,Φ p w v->Rw 1 (λi _ v=>v = .agg #[.int .i64 (z i)]) n w v) (hx:Φ x=Rw 2 (Nf (ae zs) 2) zs.length) (hz:∀i,-9223372036854775808<=z i∧z i<=9223372036854775807) (hzs:aw (mk n z)=zs) (hn:n<=1000000:=by omega):aj Φ prog ⟨38,[.fact p],[oS x],false⟩:=
 aU (pof hn hz) ⟨hp,trivial⟩ ⟨⟨rfl,⟨rfl,rfl,λ_ _ h=>hx▸hzs▸rh h⟩,trivial⟩,trivial⟩
theorem ZG {us:List Value}{X:Nat->Prop} (hx:Φ x=Iw 0 k) (h:cG Φ X w [⟨.agg [.lit (.cb false),.lit .nl],[]⟩] us):cG Φ X w [⟨iS,[(0,0,x)]⟩] us:=by
 match us,h with
 | [u],h=>
  obtain ⟨⟨⟨vs,rfl,h2⟩,_⟩,_⟩:=h
  match vs,h2 with
  | [v0,v1],h2=>
   obtain ⟨e0,e1,_⟩:=h2;have vF:v0 = .bool false:=e0;have e1':v1 = .slice none 0 0:=e1;subst vF;subst e1';exact cP ro hx λw1 _=>(ak.zero w1 k).i
theorem uc (hp:Im Φ p (Rw 2 (If z k) n)) (hq:Im Φ q (Ni (i:Int))) (hx:Φ x=Iw t k) (h1:i<n->z i=t) (h2:n<=i->t=0) (_hn:n<=1000000:=by omega):aj Φ prog ⟨120,[.fact p,.fact q],[⟨iS,[(0,0,x)]⟩],false⟩:=by
 rcases Nat.lt_or_ge i n with h | h
 ·exact aU (Zy (z:=z) (k:=k) (n:=n) h) ⟨hp,hq,trivial⟩ ⟨⟨rfl,⟨rfl,rfl,λ_ _ h'=>hx▸h1 h▸h'⟩,trivial⟩,trivial⟩
 ·intro X w vs hX ha;have ht:=h2 h;subst ht;refine (aU (outs:=[⟨.agg [.lit (.cb false),.lit .nl],[]⟩]) (Φ:=Φ) (ar:=[.fact p,.fact q]) (ZE (z:=z) (k:=k) (n:=n) h) ⟨hp,hq,trivial⟩ ⟨⟨rfl,trivial⟩,trivial⟩ X w vs hX ha).mono λ_ _ ⟨hg,us,he,h2⟩=>⟨hg,us,he,ZG hx h2⟩
end
def KI (w:World) (v:Value) (b:Bool) (xs:List Nat) (z:Int) (k:Nat):Prop:=aJ w v b xs∧aD w v z k
theorem KI.kp {w':World}{z:Int} (h:KI w v b xs z k) (g:Kp w w'):KI w' v b xs z k:=⟨h.1.kp g,h.2.kp g⟩
theorem KI.dQ {z:Int} (h:KI w (.agg l.toArray) b xs z k):∀u,u ∈ l->u.oneCell'=true∧dd u:=aD.dQ h.2
theorem kI {z:Int}:∀w v,KI w v b xs z k->aD w v z k:=λ_ _ h=>h.2
theorem ah.fst' {q:Rat} (h:ah w (.agg l.toArray) q k):ai w (.agg ((l.drop 0).take 2).toArray) q.num k:=by have:=ah.fst h;simpa [bS,cellsOf,Value.cells] using this
theorem ah.snd' {q:Rat} (h:ah w (.agg l.toArray) q k):ai w (.agg ((l.drop 2).take 2).toArray) (q.den:Int) k:=by have:=ah.snd h;simpa [bS,cellsOf,Value.cells] using this
theorem gg (z:Int):aH z 1=((z:Int):Rat):=by rw [ZH,<- Rat.mk_den_one,Rat.mk_eq_divInt];rfl
theorem ZI (z:Int):cK (((z:Int):Rat).den:Int) 1=0:=by show cK 1 1=0;decide
section
variable {x1 x2 j:Nat}
theorem ws (k:Nat){z:Int} (hp:∀w v,Φ p w v->aJ w v b xs) (hq:Im Φ q (Ni (k:Int))) (hx:Φ x=λw v=>KI w v b (xs.take k) z k) (hz:sg b (Proofs.YtlmanbjkkjfjgaaGreat.val 4294967296 (xs.take k))=z):aj Φ prog ⟨80,[.fact p,.fact q],[⟨iS,[(0,0,x)]⟩],false⟩:=λX w vs hX ha=>by
 match vs,ha with
 | [v,u],ha=>
  refine ((ZJ (Φ:=ph [λw v=>aJ w v b xs,Ni (k:Int),λw v=>aJ w v b (xs.take k),Iw z k]) (p:=0) (q:=1) (x:=2) (x':=3) k ad ad rfl rfl hz) X w [v,u] hX ⟨λw1 hw=>hp _ _ (ha.1 w1 hw),λw1 hw=>hq _ _ (ha.2.1 w1 hw),trivial⟩).mono λe w' ⟨hg,us,he,ho⟩=>⟨hg,us,he,?_⟩
  match us,ho with
  | [u],ho=>
   exact cP ho.1.1 hx λw1 hw=>⟨ho.1.2 (0,0,2) (List.mem_cons_self ..) w1 hw,ho.1.2 (0,0,3) (List.mem_cons_of_mem _ (List.mem_cons_self ..)) w1 hw⟩
theorem Iu {z:Int}{t:Rat} (hp:Im Φ p (Ni z)) (hx:Φ x=Dw t 6) (hx1:Φ x1=Jw t.num 6) (hx2:Φ x2=Jw (t.den:Int) 6) (z1 : -9223372036854775808<=z) (z2:z<=9223372036854775807) (ht:aH z y=t) (y1:-9223372036854775808<=y:=by decide) (y2:y<=9223372036854775807:=by decide):aj Φ prog ⟨41,[.fact p,.lit (Ai y)],[⟨sS,[(0,0,x),(0,2,x1),(2,2,x2)]⟩],false⟩:=
 fe λ_ _ _ u h0 h1=>by obtain rfl:=hp _ _ (get h0);obtain rfl:u = .int .i64 y:=h1;exact (ww z y z1 z2 y1 y2 ht).mono λ_ _ h=>lE hx hx1 hx2 h
theorem ZK {z r:Int} (hp:Im Φ p (Jw z i)) (hq:Im Φ q (Jw y j)) (hr:cK z y=r) (hi:i+j<=1000000:=by omega):aj Φ prog ⟨40,[.fact p,.fact q],[oL (Ai r)],false⟩:=
 fe λ_ _ _ _ h0 h1=>(Iv r (hp _ _ (get h0)) (hq _ _ (get h1)) hi hr).mono λ_ _ h=>HK h
end
def yH (a:Nat->Bool) (xs:Nat->List Nat) (ez:Nat->Int) (n0 K m N:Nat):List WP:=[λw v=>Rw 2 (λι w v=>aJ w v (a ι) (xs ι)) n0 w v,Nz K,Nz m,λw v=>aA 2 28 (λι w v=>KI w v (a ι) ((λι=>(xs ι).take m) ι) (ez ι) m) N w v]
def ZL (a:Nat->Bool) (xs:Nat->List Nat) (ez:Nat->Int) (n0 m:Nat) (j:Nat):List WP:=[Nz j,λw v=>aA 2 28 (λι w v=>KI w v (a ι) ((λι=>(xs ι).take m) ι) (ez ι) m) j w v,λ_ _=>True,Nz n0,λw v=>Ptr 2 (λw v=>aJ w v (a j) (xs j)) w v,λw v=>aJ w v (a j) (xs j),λw v=>KI w v (a j) ((xs j).take m) (ez j) m,λw v=>aA 2 28 (λι w v=>KI w v (a ι) ((λι=>(xs ι).take m) ι) (ez ι) m) (j+1) w v,Nz (j+1),Nz n0]
def Ix:bp:=⟨[0,1,2,6],[(.slot 8,.i),(.slot 7,.s)],[(.one 0,4),(.one 1,.cM [1] 5),(.one 1,.lo 1)],[.closed (.one (Ai 0)),.closed (.one (.nl)),.frm 0],4,[(5,3)]⟩
def Iy:List Step:=[bQ [0] [oN 7] (aC 25),bQ [4,7] oT (am .lss),bQ [4,1] oT (am .lss),bQ [0,4] [oP 8] (adK 25),bQ [8] [oI 9] (aQ 28),
   cB 80 [9,2] [oI 10],.base ⟨0,[5,.row 2 [10]],[oS 11],.loose [] 1 0 (cA 25 25)⟩,bQ [4,.lit (Ai 1)] [oN 12] (am .add)]
def ZM:List Step:=[bQ [0] [oN 13] (aC 25),bQ [4,13] oF (am .lss)]
def ZN:List Step:=[.loop Ix [(Iy,[.frm 12,.frm 11,.frm 0])] ZM]
def ZO:List Out:=[oS 0,oN 1,oN 2]
theorem ZP {xs:Nat->List Nat} (hn:n0<=9223372036854775807) (hKm:K<=1000000) (hz:∀j,sg (a j) (Proofs.YtlmanbjkkjfjgaaGreat.val 4294967296 ((xs j).take m))=ez j) (hN:N=n0:=by omega) (hK:N<=K:=by omega):aj (ph (yH a xs ez n0 K m N)) prog ⟨79,[0,1,2],[oS 3],false⟩:=adL ZO [oS 3] ZN func79 (by kernel_rfl) (bN (counted N (λj=>ph (yH a xs ez n0 K m N ++ ZL a xs ez n0 m j)) (λ_=>0) (λ_ p hp=>bO (show p<(yH a xs ez n0 K m N).length from hp)) ⟨λ_=>rfl,λw=>aA.nil 2 28 (λι w v=>KI w v (a ι) ((λι=>(xs ι).take m) ι) (ez ι) m) w,bI,trivial⟩ (λj _=>by
   skip
   exact ⟨(Iy,[.frm 12,.frm 11,.frm 0]),rfl,⟨ad,ad,bI,trivial⟩,(lB (aM (F:=(λι w v=>aJ w v (a ι) (xs ι))) underlying25 ad rfl) (lB (bK ad ad) (lB (bK ad ad) (lB (bw (i:=j) (F:=(λι w v=>aJ w v (a ι) (xs ι))) underlying25 ad ad rfl) (lB (bT (sz:=2) (F:=λw v=>aJ w v (a j) (xs j)) ad (λ_ _ _ g h=>aJ.kp h g) (λ_ _ h=>aJ.is h) rfl) (lB (ws m ad ad rfl (hz j)) (lB (km (n:=j) (F:=(λι w v=>KI w v (a ι) ((λι=>(xs ι).take m) ι) (ez ι) m)) (λ_ _ _ _ g h=>KI.kp h g) ad ad (λ_ _ h=>KI.dQ h) rfl) (lB (ch ad rfl) au))))))))⟩) (lB (aM (F:=(λι w v=>aJ w v (a ι) (xs ι))) underlying25 ad rfl) (lB (tlF ad ad) au))
   (poC (λ_ _ h=>(λh=>h) h) poN)) au)
  (aP [.fact 0 (.one (.s)),.fact 1 (.one (.i)),.fact 2 (.one (.i))] ⟨Rw.Is 2 (λι w v=>aJ w v (a ι) (xs ι)) n0,λ_ _ h=>h▸cY _,λ_ _ h=>h▸cY _,trivial⟩) (λ_ _ _ h=>h)
def yI (a:Nat->Bool) (xs:Nat->List Nat) (ez:Nat->Int) (n0 K m N:Nat):List WP:=[λw v=>Rw 2 (λι w v=>aJ w v (a ι) (xs ι)) n0 w v,Nz K,Nz m,λw v=>aA 2 28 (λι w v=>KI w v (a ι) ((λι=>(xs ι).take m) ι) (ez ι) m) N w v]
def ZQ (a:Nat->Bool) (xs:Nat->List Nat) (ez:Nat->Int) (n0 m:Nat) (j:Nat):List WP:=[Nz j,λw v=>aA 2 28 (λι w v=>KI w v (a ι) ((λι=>(xs ι).take m) ι) (ez ι) m) j w v,λ_ _=>True,Nz n0,λw v=>Ptr 2 (λw v=>aJ w v (a j) (xs j)) w v,λw v=>aJ w v (a j) (xs j),λw v=>KI w v (a j) ((xs j).take m) (ez j) m,λw v=>aA 2 28 (λι w v=>KI w v (a ι) ((λι=>(xs ι).take m) ι) (ez ι) m) (j+1) w v,Nz (j+1),Nz n0]
def Iz:bp:=⟨[0,1,2,6],[(.slot 8,.i),(.slot 7,.s)],[(.one 0,4),(.one 1,.cM [1] 5),(.one 1,.lo 1)],[.closed (.one (Ai 0)),.closed (.one (.nl)),.frm 0],4,[(5,3)]⟩
def IA:List Step:=[bQ [0] [oN 7] (aC 25),bQ [4,7] oT (am .lss),bQ [4,1] oT (am .lss),bQ [0,4] [oP 8] (adK 25),bQ [8] [oI 9] (aQ 28),
   cB 80 [9,2] [oI 10],.base ⟨0,[5,.row 2 [10]],[oS 11],.loose [] 1 0 (cA 25 25)⟩,bQ [4,.lit (Ai 1)] [oN 12] (am .add)]
def ZR:List Step:=[bQ [0] [oN 13] (aC 25),bQ [4,13] oT (am .lss),bQ [4,1] oF (am .lss)]
def ZS:List Step:=[.loop Iz [(IA,[.frm 12,.frm 11,.frm 0])] ZR]
def ZT:List Out:=[oS 0,oN 1,oN 2]
theorem ZU {xs:Nat->List Nat} (_hn:n0<=9223372036854775807) (hKm:K<=1000000) (hz:∀j,sg (a j) (Proofs.YtlmanbjkkjfjgaaGreat.val 4294967296 ((xs j).take m))=ez j) (hK:K<n0) (hN:N=K:=by omega):aj (ph (yI a xs ez n0 K m N)) prog ⟨79,[0,1,2],[oS 3],false⟩:=adL ZT [oS 3] ZS func79 (by kernel_rfl) (bN (counted N (λj=>ph (yI a xs ez n0 K m N ++ ZQ a xs ez n0 m j)) (λ_=>0) (λ_ p hp=>bO (show p<(yI a xs ez n0 K m N).length from hp)) ⟨λ_=>rfl,λw=>aA.nil 2 28 (λι w v=>KI w v (a ι) ((λι=>(xs ι).take m) ι) (ez ι) m) w,bI,trivial⟩ (λj _=>by
   skip
   exact ⟨(IA,[.frm 12,.frm 11,.frm 0]),rfl,⟨ad,ad,bI,trivial⟩,(lB (aM (F:=(λι w v=>aJ w v (a ι) (xs ι))) underlying25 ad rfl) (lB (bK ad ad) (lB (bK ad ad) (lB (bw (i:=j) (F:=(λι w v=>aJ w v (a ι) (xs ι))) underlying25 ad ad rfl) (lB (bT (sz:=2) (F:=λw v=>aJ w v (a j) (xs j)) ad (λ_ _ _ g h=>aJ.kp h g) (λ_ _ h=>aJ.is h) rfl) (lB (ws m ad ad rfl (hz j)) (lB (km (n:=j) (F:=(λι w v=>KI w v (a ι) ((λι=>(xs ι).take m) ι) (ez ι) m)) (λ_ _ _ _ g h=>KI.kp h g) ad ad (λ_ _ h=>KI.dQ h) rfl) (lB (ch ad rfl) au))))))))⟩) (lB (aM (F:=(λι w v=>aJ w v (a ι) (xs ι))) underlying25 ad rfl) (lB (bK ad ad) (lB (tlF ad ad) au)))
   (poC (λ_ _ h=>(λh=>h) h) poN)) au)
  (aP [.fact 0 (.one (.s)),.fact 1 (.one (.i)),.fact 2 (.one (.i))] ⟨Rw.Is 2 (λι w v=>aJ w v (a ι) (xs ι)) n0,λ_ _ h=>h▸cY _,λ_ _ h=>h▸cY _,trivial⟩) (λ_ _ _ h=>h)
def yJ (q:Nat->Rat) (n0 k:Nat):List WP:=[Rw 4 (Df q k) n0,Nz n0,Nz (tl (λι=>(q ι).num) n0),Rw 4 (Df q k) (tl (λι=>(q ι).num) n0)]
def ZV (q:Nat->Rat) (n0 k:Nat) (j:Nat):List WP:=[Nz (n0-j),Nz (n0-(j+1)),Ptr 4 (Dw (q (n0-(j+1))) k),Ptr 2 (Jw ((q (n0-(j+1))).num) k),Jw ((q (n0-(j+1))).num) k,Nz (n0-(j+1))]
def IB:bp:=⟨[0,2,4,5],[(.slot 3,.i)],[(.one 0,4)],[.frm 1],4,[(4,2)]⟩
def IC:List Step:=[bQ [4,.lit (Ai 0)] oT (am .gtr),bQ [4,.lit (Ai 1)] [oN 5] (am .sub),bQ [0,5] [oP 6] (adK 38),bQ [6] [oP 7] (ce 57 0),bQ [7] [oD 8] (aQ 55),
   cB 28 [8] oT,bQ [4,.lit (Ai 1)] [oN 9] (am .sub)]
def ZW:List Step:=[bQ [4,.lit (Ai 0)] oF (am .gtr)]
def ZX:List Step:=[bQ [0] [oN 1] (aC 38),.loop IB [(IC,[.frm 9])] ZW,bQ [0,2] [oS 3] (eL 38)]
def ZY:List Out:=[oS 0]
theorem ZZ {q:Nat->Rat} (hn:n0<=1000000) (_hk:k<=500000) (ht:(tl (λι=>(q ι).num) n0)=0):aj (ph (yJ q n0 k)) prog ⟨42,[0],[oS 3],false⟩:=by
 have hle:=bg (λι=>(q ι).num) n0;exact adL ZY [oS 3] ZX func42 (by kernel_rfl) (lB (aM (F:=(Df q k)) underlying38 ad rfl) (bN (counted (n0-(tl (λι=>(q ι).num) n0)) (λj=>ph (yJ q n0 k ++ ZV q n0 k j)) (λ_=>0) (λ_ p hp=>bO (show p<(yJ q n0 k).length from hp)) ⟨ad,trivial⟩ (λj _=>by
   have h0:(q (n0-(j+1))).num=0:=gH (λι=>(q ι).num) n0 _ (by omega) (by omega);exact ⟨(IC,[.frm 9]),rfl,⟨ad,trivial⟩,(lB (gG ad) (lB (cO ad rfl) (lB (bw (i:=(n0-(j+1))) (F:=(Df q k)) underlying38 ad ad rfl) (lB (cf (off:=0) (len:=2) (sz:=4) (F:=Dw (q (n0-(j+1))) k) (G:=Jw ((q (n0-(j+1))).num) k) ad (λ_ _ h=>ah.fst' h) rfl) (lB (bT (sz:=2) (F:=Jw ((q (n0-(j+1))).num) k) ad (λ_ _ _ g h=>ai.kp h g) (λ_ _ h=>ai.is h) rfl) (lB (gh dD (decide_eq_true h0)) (lB (cO ad rfl) au)))))))⟩)
   (by
   have hle:=bg (λι=>(q ι).num) n0;exact (lB (lu ad) au))
   (poC (λ_ _ h=>(λh=>h.trans (congrArg (Value.int .i64) (by have:=bg (λι=>(q ι).num) n0;omega))) h) poN)) (lB (oM (m:=(tl (λι=>(q ι).num) n0)) (n:=n0) (F:=(Df q k)) underlying38 ad ad (by first | omega | exact bg _ _) rfl) au)))
  (aP [.fact 0 (.one (.s))] ⟨Rw.Is 4 (Df q k) n0,trivial⟩) aV
def yK (q:Nat->Rat) (n0 k:Nat):List WP:=[Rw 4 (Df q k) n0,Nz n0,Nz (tl (λι=>(q ι).num) n0),Rw 4 (Df q k) (tl (λι=>(q ι).num) n0)]
def aaa (q:Nat->Rat) (n0 k:Nat) (j:Nat):List WP:=[Nz (n0-j),Nz (n0-(j+1)),Ptr 4 (Dw (q (n0-(j+1))) k),Ptr 2 (Jw ((q (n0-(j+1))).num) k),Jw ((q (n0-(j+1))).num) k,Nz (n0-(j+1)),Ni ((((tl (λι=>(q ι).num) n0)-1):Nat):Int),Ptr 4 (Dw (q ((tl (λι=>(q ι).num) n0)-1)) k),Ptr 2 (Jw ((q ((tl (λι=>(q ι).num) n0)-1)).num) k),Jw ((q ((tl (λι=>(q ι).num) n0)-1)).num) k]
def ID:bp:=⟨[0,2,4,5],[(.slot 3,.i)],[(.one 0,4)],[.frm 1],4,[(4,2)]⟩
def IE:List Step:=[bQ [4,.lit (Ai 0)] oT (am .gtr),bQ [4,.lit (Ai 1)] [oN 5] (am .sub),bQ [0,5] [oP 6] (adK 38),bQ [6] [oP 7] (ce 57 0),bQ [7] [oD 8] (aQ 55),
   cB 28 [8] oT,bQ [4,.lit (Ai 1)] [oN 9] (am .sub)]
def aab:List Step:=[bQ [4,.lit (Ai 0)] oT (am .gtr),bQ [4,.lit (Ai 1)] [oN 10] (am .sub),bQ [0,10] [oP 11] (adK 38),bQ [11] [oP 12] (ce 57 0),bQ [12] [oD 13] (aQ 55),
   cB 28 [13] oF]
def aac:List Step:=[bQ [0] [oN 1] (aC 38),.loop ID [(IE,[.frm 9])] aab,bQ [0,2] [oS 3] (eL 38)]
def aad:List Out:=[oS 0]
theorem aae {q:Nat->Rat} (hn:n0<=1000000) (_hk:k<=500000) (ht:0<(tl (λι=>(q ι).num) n0)):aj (ph (yK q n0 k)) prog ⟨42,[0],[oS 3],false⟩:=by
 have hle:=bg (λι=>(q ι).num) n0;exact adL aad [oS 3] aac func42 (by kernel_rfl) (lB (aM (F:=(Df q k)) underlying38 ad rfl) (bN (counted (n0-(tl (λι=>(q ι).num) n0)) (λj=>ph (yK q n0 k ++ aaa q n0 k j)) (λ_=>0) (λ_ p hp=>bO (show p<(yK q n0 k).length from hp)) ⟨ad,trivial⟩ (λj _=>by
   have h0:(q (n0-(j+1))).num=0:=gH (λι=>(q ι).num) n0 _ (by omega) (by omega);exact ⟨(IE,[.frm 9]),rfl,⟨ad,trivial⟩,(lB (gG ad) (lB (cO ad rfl) (lB (bw (i:=(n0-(j+1))) (F:=(Df q k)) underlying38 ad ad rfl) (lB (cf (off:=0) (len:=2) (sz:=4) (F:=Dw (q (n0-(j+1))) k) (G:=Jw ((q (n0-(j+1))).num) k) ad (λ_ _ h=>ah.fst' h) rfl) (lB (bT (sz:=2) (F:=Jw ((q (n0-(j+1))).num) k) ad (λ_ _ _ g h=>ai.kp h g) (λ_ _ h=>ai.is h) rfl) (lB (gh dD (decide_eq_true h0)) (lB (cO ad rfl) au)))))))⟩)
   (by
   have hle:=bg (λι=>(q ι).num) n0;have hl:=fG (λι=>(q ι).num) n0 ht;exact (lB (gG ad) (lB (cO ad rfl) (lB (bw (i:=((tl (λι=>(q ι).num) n0)-1)) (F:=(Df q k)) underlying38 ad ad rfl) (lB (cf (off:=0) (len:=2) (sz:=4) (F:=Dw (q ((tl (λι=>(q ι).num) n0)-1)) k) (G:=Jw ((q ((tl (λι=>(q ι).num) n0)-1)).num) k) ad (λ_ _ h=>ah.fst' h) rfl) (lB (bT (sz:=2) (F:=Jw ((q ((tl (λι=>(q ι).num) n0)-1)).num) k) ad (λ_ _ _ g h=>ai.kp h g) (λ_ _ h=>ai.is h) rfl) (lB (gh dD (decide_eq_false hl)) au)))))))
   (poC (λ_ _ h=>(λh=>h.trans (congrArg (Value.int .i64) (by have:=bg (λι=>(q ι).num) n0;omega))) h) poN)) (lB (oM (m:=(tl (λι=>(q ι).num) n0)) (n:=n0) (F:=(Df q k)) underlying38 ad ad (by first | omega | exact bg _ _) rfl) au)))
  (aP [.fact 0 (.one (.s))] ⟨Rw.Is 4 (Df q k) n0,trivial⟩) aV
section
variable {q:Nat->Rat}
theorem mV (hp:Im Φ p (Rw 4 (Df q k) n)) (hx:Φ x=Rw 4 (Df q k) (tl (λi=>(q i).num) n)) (hn:n<=1000000:=by omega) (hk:k<=500000:=by omega):aj Φ prog ⟨42,[.fact p],[oS x],false⟩:=by
 rcases Nat.eq_zero_or_pos (tl (λi=>(q i).num) n) with h | h
 ·exact aU (ZZ hn hk h) ⟨hp,trivial⟩ ⟨⟨rfl,⟨rfl,rfl,λ_ _ h=>hx▸h⟩,trivial⟩,trivial⟩
 ·exact aU (aae hn hk h) ⟨hp,trivial⟩ ⟨⟨rfl,⟨rfl,rfl,λ_ _ h=>hx▸h⟩,trivial⟩,trivial⟩
end
def yL (z:Nat->Int) (n k:Nat):List WP:=[Rw 2 (If z k) n,Nz n,aA 4 57 (Zf z (k+2+2)) n,Rw 4 (Zf z (k+2+2)) (tl (λι=>(((z ι:Int):Rat)).num) n)]
def aaf (z:Nat->Int) (k:Nat) (j:Nat):List WP:=[Nz j,aA 4 57 (Zf z (k+2+2)) j,λ_ _=>True,Ptr 2 (Iw (z j) k),Iw (z j) k,Jw (z j) k,Jw (1:Int) 2,Dw (aH (z j) (1:Int)) (k+2+2),Jw ((aH (z j) (1:Int)).num) (k+2+2),Jw ((aH (z j) (1:Int)).den:Int) (k+2+2),aA 4 57 (Zf z (k+2+2)) (j+1),Nz (j+1)]
def IF:bp:=⟨[0,2,5,6],[(.slot 7,.i),(.slot 3,.s)],[(.one 0,4),(.one 1,.cM [1] 5),(.one 1,.lo 1)],[.closed (.one (Ai 0)),.closed (.one (.nl)),.frm 0],4,[(5,2)]⟩
def IG:List Step:=[bQ [4,1] oT (am .lss),bQ [0,4] [oP 7] (adK 25),bQ [7] [oI 8] (aQ 28),
   cB 27 [8] [oD 9],
   cB 24 [.lit (Ai 1)] [oD 10],
   cB 53 [9,10] [⟨.agg [.s,.b,.s,.b],[(0,0,11),(0,2,12),(2,2,13)]⟩],.base ⟨0,[5,.row 4 [11]],[oS 14],.loose [] 1 0 (cA 38 38)⟩,bQ [4,.lit (Ai 1)] [oN 15] (am .add)]
def aag:List Step:=[bQ [4,1] oF (am .lss)]
def aah:List Step:=[bQ [0] [oN 1] (aC 25),.loop IF [(IG,[.frm 15,.frm 14,.frm 0])] aag,.base ⟨42,[2],[oS 3],.dR [1] false⟩]
def aai:List Out:=[oS 0]
theorem aaj  (hn:n<=1000000) (hk:k<=50000):aj (ph (yL z n k)) prog ⟨23,[0],[oS 3],false⟩:=adL aai [oS 3] aah func23 (by kernel_rfl) (lB (aM (F:=(If z k)) underlying25 ad rfl) (bN (counted n (λj=>ph (yL z n k ++ aaf z k j)) (λ_=>0) (λ_ p hp=>bO (show p<(yL z n k).length from hp)) ⟨λ_=>rfl,λw=>aA.nil 4 57 (Zf z (k+2+2)) w,bI,trivial⟩ (λj _=>by
   skip
   exact ⟨(IG,[.frm 15,.frm 14,.frm 0]),rfl,⟨ad,ad,bI,trivial⟩,(lB (bK ad ad) (lB (bw (i:=j) (F:=(If z k)) underlying25 ad ad rfl) (lB (bT (sz:=2) (F:=Iw (z j) k) ad (λ_ _ _ g h=>aD.kp h g) (λ_ _ h=>aD.is h) rfl) (lB (jp iI rfl rfl) (lB (fP (z:=1) rfl rfl) (lB (gv dD dD rfl rfl rfl rfl) (lB (mJ (n:=j) (F:=(Zf z (k+2+2))) (λ_ _ _ _ g h=>ah.kp h g) ad (λ_ _ h=>h.eq (gg _)) (λ_ _ h=>ah.dQ h) rfl) (lB (ch ad rfl) au))))))))⟩) (lB (tlF ad ad) au)
   (poC (λ_ _ h=>(λh=>h) h) poN)) (lB (eS [1] (mV (q:=(λι=>((z ι:Int):Rat))) (n:=n) (k:=(k+2+2)) (λ_ _ h=>aA.rw h) rfl)) au)))
  (aP [.fact 0 (.one (.s))] ⟨Rw.Is 2 (If z k) n,trivial⟩) aV
def yM (z:Nat->Int) (n:Nat):List WP:=[λw v=>Rw 1 (λi _ v=>v = .agg #[.int .i64 (z i)]) n w v,Nz n,aA 4 57 (Zf z 6) n,Rw 4 (Zf z 6) (tl (λι=>(((z ι:Int):Rat)).num) n)]
def aak (z:Nat->Int) (j:Nat):List WP:=[Nz j,aA 4 57 (Zf z 6) j,λ_ _=>True,λw v=>Ptr 1 (λ_ v=>v = .agg #[.int .i64 (z j)]) w v,Ni (z j),Dw (aH (z j) 1) 6,Jw ((aH (z j) 1).num) 6,Jw ((aH (z j) 1).den:Int) 6,aA 4 57 (Zf z 6) (j+1),Nz (j+1)]
def IH:bp:=⟨[0,2,5,6],[(.slot 7,.i),(.slot 3,.s)],[(.one 0,4),(.one 1,.cM [1] 5),(.one 1,.lo 1)],[.closed (.one (Ai 0)),.closed (.one (.nl)),.frm 0],4,[(5,2)]⟩
def II:List Step:=[bQ [4,1] oT (am .lss),bQ [0,4] [oP 7] (adK 22),bQ [7] [oN 8] (aQ 3),
   cB 41 [8,.lit (Ai 1)] [⟨.agg [.s,.b,.s,.b],[(0,0,9),(0,2,10),(2,2,11)]⟩],.base ⟨0,[5,.row 4 [9]],[oS 12],.loose [] 1 0 (cA 38 38)⟩,bQ [4,.lit (Ai 1)] [oN 13] (am .add)]
def aal:List Step:=[bQ [4,1] oF (am .lss)]
def aam:List Step:=[bQ [0] [oN 1] (aC 22),.loop IH [(II,[.frm 13,.frm 12,.frm 0])] aal,.base ⟨42,[2],[oS 3],.dR [1] false⟩]
def aan:List Out:=[oS 0]
theorem rof  (hn:n<=1000000) (hz:∀i,-9223372036854775808<=z i∧z i<=9223372036854775807):aj (ph (yM z n)) prog ⟨11,[0],[oS 3],false⟩:=adL aan [oS 3] aam func11 (by kernel_rfl) (lB (aM (F:=(λi _ v=>v = .agg #[.int .i64 (z i)])) underlying22 ad rfl) (bN (counted n (λj=>ph (yM z n ++ aak z j)) (λ_=>0) (λ_ p hp=>bO (show p<(yM z n).length from hp)) ⟨λ_=>rfl,λw=>aA.nil 4 57 (Zf z 6) w,bI,trivial⟩ (λj _=>by
   skip
   exact ⟨(II,[.frm 13,.frm 12,.frm 0]),rfl,⟨ad,ad,bI,trivial⟩,(lB (bK ad ad) (lB (bw (i:=j) (F:=(λi _ v=>v = .agg #[.int .i64 (z i)])) underlying22 ad ad rfl) (lB (ym ad rfl) (lB (Iu (y:=1) ad rfl rfl rfl (by have:=hz j;omega) (by have:=hz j;omega) rfl) (lB (mJ (n:=j) (F:=(Zf z 6)) (λ_ _ _ _ g h=>ah.kp h g) ad (λ_ _ h=>h.eq (gg _)) (λ_ _ h=>ah.dQ h) rfl) (lB (ch ad rfl) au))))))⟩) (lB (tlF ad ad) au)
   (poC (λ_ _ h=>(λh=>h) h) poN)) (lB (eS [1] (mV (q:=(λι=>((z ι:Int):Rat))) (n:=n) (k:=6) (λ_ _ h=>aA.rw h) rfl)) au)))
  (aP [.fact 0 (.one (.s))] ⟨Rw.Is 1 (λi _ v=>v = .agg #[.int .i64 (z i)]) n,trivial⟩) aV
def yN (z:Nat->Int) (n k kq:Nat):List WP:=[Rw 4 (Zf z kq) n,Rw 2 (Nf z k) n,Nz n,Nz n,Nz n]
def aao (z:Nat->Int) (k kq:Nat) (j:Nat):List WP:=[Nz j,Ptr 4 (Dw (((z j:Int):Rat)) kq),Ptr 2 (Jw ((((z j:Int):Rat)).num) kq),Jw ((((z j:Int):Rat)).num) kq,Ptr 2 (Nw (z j) k),Nw (z j) k,Ptr 4 (Dw (((z j:Int):Rat)) kq),Ptr 2 (Jw ((((z j:Int):Rat)).den:Int) kq),Jw ((((z j:Int):Rat)).den:Int) kq,Jw (1:Int) 2,Nz (j+1)]
def aap:bp:=⟨[0,1,4,6,7,8,9,10,11,12],[(.slot 13,.i)],[(.one 0,5)],[.closed (.one (Ai 0))],5,[]⟩
def IJ:List Step:=[bQ [5,4] oT (am .lss),bQ [0,5] [oP 6] (adK 38),bQ [6] [oP 7] (ce 57 0),bQ [7] [oD 8] (aQ 55),bQ [1,5] [oP 9] (adK 25),bQ [9] [oI 10] (aQ 28),
   cB 39 [8,10] oT,bQ [0,5] [oP 11] (adK 38),bQ [11] [oP 12] (ce 57 1),bQ [12] [oD 13] (aQ 55),
   cB 24 [.lit (Ai 1)] [oD 14],
   cB 40 [13,14] [oL (Ai 0)],bQ [5,.lit (Ai 1)] [oN 15] (am .add)]
def aaq:List Step:=[bQ [5,4] oF (am .lss)]
def aar:List Step:=[bQ [0] [oN 2] (aC 38),bQ [1] [oN 3] (aC 25),bQ [2,3] oF (am .neq),bQ [0] [oN 4] (aC 38),.loop aap [(IJ,[.frm 15])] aaq]
def aas:List Out:=[oS 0,oS 1]
theorem aat {kq:Nat} (hn:n<=1000000) (hkq:kq<=500000) (_hk:k<=500000):aj (ph (yN z n k kq)) prog ⟨10,[0,1],oT,false⟩:=adL aas oT aar func10 (by kernel_rfl) (lB (aM (F:=(Zf z kq)) underlying38 ad rfl) (lB (aM (F:=(Nf z k)) underlying25 ad rfl) (lB (eJ (op:=.neq) ad ad (bz (decide_eq_false (λh=>h rfl)) (by simp))) (lB (aM (F:=(Zf z kq)) underlying38 ad rfl) (bN (counted n (λj=>ph (yN z n k kq ++ aao z k kq j)) (λ_=>0) (λ_ p hp=>bO (show p<(yN z n k kq).length from hp)) ⟨λ_=>rfl,trivial⟩ (λj _=>by
   skip
   exact ⟨(IJ,[.frm 15]),rfl,⟨ad,trivial⟩,(lB (bK ad ad) (lB (bw (i:=j) (F:=(Zf z kq)) underlying38 ad ad rfl) (lB (cf (off:=0) (len:=2) (sz:=4) (F:=Dw (((z j:Int):Rat)) kq) (G:=Jw ((((z j:Int):Rat)).num) kq) ad (λ_ _ h=>ah.fst' h) rfl) (lB (bT (sz:=2) (F:=Jw ((((z j:Int):Rat)).num) kq) ad (λ_ _ _ g h=>ai.kp h g) (λ_ _ h=>ai.is h) rfl) (lB (bw (i:=j) (F:=(Nf z k)) underlying25 ad ad rfl) (lB (bT (sz:=2) (F:=Nw (z j) k) ad (λ_ _ _ g h=>ak.kp h g) (λ_ _ h=>ak.is h) rfl) (lB (aau dD nN rfl rfl) (lB (bw (i:=j) (F:=(Zf z kq)) underlying38 ad ad rfl) (lB (cf (off:=2) (len:=2) (sz:=4) (F:=Dw (((z j:Int):Rat)) kq) (G:=Jw ((((z j:Int):Rat)).den:Int) kq) ad (λ_ _ h=>ah.snd' h) rfl) (lB (bT (sz:=2) (F:=Jw ((((z j:Int):Rat)).den:Int) kq) ad (λ_ _ _ g h=>ai.kp h g) (λ_ _ h=>ai.is h) rfl) (lB (fP (z:=1) rfl rfl) (lB (ZK dD dD (ZI _)) (lB (ch ad rfl) au)))))))))))))⟩) (lB (tlF ad ad) au)
   poN) au)))))
  (aP [.fact 0 (.one (.s)),.fact 1 (.one (.s))] ⟨Rw.Is 4 (Zf z kq) n,Rw.Is 2 (Nf z k) n,trivial⟩) aV
section
variable {kq:Nat}
theorem aav (hp:Im Φ p (Rw 4 (Zf z kq) n)) (hq:Im Φ q (Rw 2 (Nf z k) n)) (hn:n<=1000000:=by decide) (hkq:kq<=500000:=by decide) (hk:k<=500000:=by decide):aj Φ prog ⟨10,[.fact p,.fact q],oT,false⟩:=
 aU (aat hn hkq hk) ⟨hp,hq,trivial⟩ ⟨⟨rfl,trivial⟩,trivial⟩
end
section
variable {r kq:Nat}
theorem IK  (hL:aw (mk n z)=L) (h:Rw 4 (Zf z k) (tl z n) w v):Rw 4 (λi w v=>ah w v ((ae L i:Int):Rat) k) L.length w v:=by subst hL;exact Rw.len (Rw.to h λi w v hi h=>by show ah w v ((ae _ i:Int):Rat) k;rw [<- Ir (Nat.lt_of_lt_of_le hi (bg _ _)),gm (h:=(Nat.lt_of_lt_of_le hi (bg _ _)))];exact h) (by rw [fF])
theorem ru  (hp:Im Φ p (Rw 2 (If z k) n)) (hx:Φ x=λw v=>Rw 4 (λi w v=>ah w v ((ae L i:Int):Rat) (k+2+2)) L.length w v) (hL:aw (mk n z)=L) (hn:n<=1000000:=by omega) (hk:k<=50000:=by omega):aj Φ prog ⟨23,[.fact p],[oS x],false⟩:=
 aU (aaj hn hk) ⟨hp,trivial⟩ ⟨⟨rfl,⟨rfl,rfl,λ_ _ h=>hx▸IK hL h⟩,trivial⟩,trivial⟩
theorem IL  (hp:∀w v,Φ p w v->Rw 1 (λi _ v=>v = .agg #[.int .i64 (z i)]) n w v) (hx:Φ x=λw v=>Rw 4 (λi w v=>ah w v ((ae L i:Int):Rat) 6) L.length w v) (hz:∀i,-9223372036854775808<=z i∧z i<=9223372036854775807) (hn:n<=1000000:=by omega) (hL:aw (mk n z)=L:=by decide):aj Φ prog ⟨11,[.fact p],[oS x],false⟩:=
 aU (rof hn hz) ⟨hp,trivial⟩ ⟨⟨rfl,⟨rfl,rfl,λ_ _ h=>hx▸IK hL h⟩,trivial⟩,trivial⟩
theorem Ci {xs:Nat->List Nat} (K m:Nat) (hp:∀w v,Φ p w v->Rw 2 (λi w v=>aJ w v (a i) (xs i)) n0 w v) (hq:Im Φ q (Ni (K:Int))) (hr:Im Φ r (Ni (m:Int))) (hx:Φ x=λw v=>Rw 2 (λi w v=>KI w v (a i) ((xs i).take m) (z i) m) n w v) (hz:∀j,sg (a j) (Proofs.YtlmanbjkkjfjgaaGreat.val 4294967296 ((xs j).take m))=z j) (hN:min n0 K=n) (hn:n0<=9223372036854775807:=by omega) (hKm:K<=1000000:=by omega) :
  aj Φ prog ⟨79,[.fact p,.fact q,.fact r],[oS x],false⟩:=by
 rcases Nat.lt_or_ge K n0 with h | h
 ·exact aU (ZU (N:=n) hn hKm hz h) ⟨hp,hq,hr,trivial⟩ ⟨⟨rfl,⟨rfl,rfl,λ_ _ h=>hx▸aA.rw (e:=28) h⟩,trivial⟩,trivial⟩
 ·exact aU (ZP (N:=n) hn hKm hz) ⟨hp,hq,hr,trivial⟩ ⟨⟨rfl,⟨rfl,rfl,λ_ _ h=>hx▸aA.rw (e:=28) h⟩,trivial⟩,trivial⟩
end
end Go.Proofs.YtlmanbjkkjfjgaaGreat.Sym
