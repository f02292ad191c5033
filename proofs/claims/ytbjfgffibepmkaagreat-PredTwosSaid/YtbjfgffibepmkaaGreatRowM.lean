/- Rows of structs in memor -/
import Derived.Test.YtbjfgffibepmkaaGreatSymS
import Derived.Maps.AppendAt
import Derived.Laws.OwnMore
namespace Go.Proofs.YtbjfgffibepmkaaGreat
open Go.RowKit
def cL (x:Value):Prop:=∀k n,k≠.u64->x≠.int k n
def dR (sz:Nat) (e:TypeId) (w:World) (v:Value) (n:Nat) (xs:List Value):Prop:=
 w.ownsRow 0 e sz v n xs∧∀g cur e' p,v.ownBlock=some g->w.heap[g]?=some (.cells cur e' p)->∀x,x ∈ cur.toList->cL x
theorem dR.nil (sz:Nat) (e:TypeId) (w:World):dR sz e w (.slice none 0 0) 0 []:=⟨⟨by simp,.inl ⟨rfl,rfl⟩⟩,fun _ _ _ _ h=>by simp [Value.ownBlock] at h⟩
section
variable {sz n:Nat}{e:TypeId}{w w':World}{v:Value}{xs:List Value}
theorem dR.lt (h:dR sz e w v n xs) (g:Nat) (hg:v.ownBlock=some g):g<w.heap.size:=by
 rcases h.1.2 with ⟨rfl,-⟩ | ⟨g',cap,cur,rfl,hb,hh,-⟩
 ·simp [Value.ownBlock] at hg
 ·simp only [Value.ownBlock,Option.some.injEq] at hg
  subst hg
  exact (Array.getElem?_eq_some_iff.1 hh).1
theorem dR.keep (h:dR sz e w v n xs) (hb:∀g,v.ownBlock=some g->w'.heap[g]?=w.heap[g]?):dR sz e w' v n xs:=by
 refine ⟨⟨h.1.1,?_⟩,fun g' cur e p hg' hh=>h.2 g' cur e p hg' (by rw [<- hb g' hg'];exact hh)⟩
 rcases h.1.2 with h2 | ⟨g',cap,cur,rfl,hB,hh,h3⟩
 ·exact .inl h2
 ·exact .inr ⟨g',cap,cur,rfl,hB,by rw [hb g' rfl];exact hh,h3⟩
theorem dR.kp (h:dR sz e w v n xs) (g:w.grownBy w' v.ownBlock):Kp w w':=by
 refine ⟨g.size,fun a k m hu hc=>?_⟩
 have hl:=World.block_lt_of_cell? _ _ hc
 by_cases hv:v.ownBlock=some a.block
 ·rcases h.1.2 with ⟨rfl,-⟩ | ⟨g',cap,cur,rfl,hB,hh,-⟩
  ·simp [Value.ownBlock] at hv
  ·simp only [Value.ownBlock,Option.some.injEq] at hv
   obtain ⟨b,off,spot⟩:=a
   have hs:spot=none:=World.cell?_spot hc
   subst hs
   simp only at hv
   subst hv
   simp [World.cell?,hh] at hc
   have:=h.2 g' cur _ _ rfl hh (.int k m) (by
    rw [<- Array.getElem?_toList] at hc
    exact List.mem_of_getElem? hc) k m hu
   exact absurd rfl this
 ·rw [World.cell?_of_block (g.block a.block hl (fun e=>hv e.symm))]
  exact hc
theorem jB {z:Array Value} (hz:∀x,x ∈ z.toList->cL x) (h0:0<z.size) (n:Nat):∀x,x ∈ (Builtin.zeroCells z n).toList->cL x:=by
 intro x hx
 simp only [Builtin.zeroCells,Array.toList_map,List.mem_map] at hx
 obtain ⟨i,-,rfl⟩:=hx
 have hlt:=Nat.mod_lt i h0
 rw [getElem!_pos z _ hlt]
 exact hz _ (by simp)
set_option maxRecDepth 100000 in
theorem xk (t ty:TypeId){i0:TypeInfo}{z:Value}{bytes:Nat} (hU:Tryz.prog.underlying t=some (.slice e)) (hi:Tryz.prog.info? e=some i0) (hz0:i0.zero=some z) (hz1:i0.size=sz) (hz2:i0.bytes=bytes) (hzs:z.cells.size=sz) (hsz:0<sz) (hbb:bytes<=1000) (hzn:∀x,x ∈ z.cells.toList->cL x)
  (h:dR sz e w v n xs) (a:Addr) (c:Nat) (news:List Value) (hl:news.length=sz) (hnews:∀(j:Nat) u,news[j]?=some u->w.cell? (a.add j)=some u) (hone:∀u,u ∈ news->u.oneCell'=true) (hnn:∀u,u ∈ news->cL u) (hn:n<=1000000) :
  ∃v' w',(Builtin.append_ #[t,t] ty #[v,.slice (some a) 1 c]).run Tryz.prog w = .ok v' w'∧dR sz e w' v' (n+1) (xs ++ news)∧w.grownBy w' v.ownBlock∧(v'.ownBlock=v.ownBlock∨v'.ownBlock=some w.heap.size):=by
 have hl1:news.length=1*sz:=by rw [hl,Nat.one_mul]
 have hby:(n+1)*bytes<=140737488355328:=Nat.le_trans (Nat.mul_le_mul (by omega:n+1<=1000001) hbb) (by decide)
 obtain ⟨v',w',hr,ho,hg,-,hb⟩:=run_append_own_at (P:=Tryz.prog) (w:=w) 0 t ty e i0 z sz bytes hU hi hz0 hz1 hz2 hzs hsz v n xs h.1 a 1 c news hl1 hnews hone (by simp only [maxLen];omega) hby (by omega)
 refine ⟨v',w',hr,⟨ho,?_⟩,hg,hb⟩
 have hL:∀x,x ∈ xs->cL x:=fun x hx=>by
  rcases h.1.2 with ⟨-,h2⟩ | ⟨g,cap,cur,hv,-,hh,-,-,-,h6⟩
  ·have:=h.1.1
   rw [h2,Nat.zero_mul] at this
   rw [List.eq_nil_of_length_eq_zero this] at hx;cases hx
  ·rw [<- h6] at hx
   exact h.2 g cur _ _ (by rw [hv];rfl) hh x (List.mem_of_mem_take hx)
 subst hz1
 rcases h.1.2 with ⟨rfl,h2⟩ | ⟨g,cap,cur,rfl,hb',hh,h3,h4,h5,h6⟩
 ·subst h2
  have hr2:=run_append_nil (P:=Tryz.prog) (w:=w) t ty e i0 z hU hi hz0 a 1 c news hl1 hnews (by omega) (by omega) (by rw [hz2];omega)
  rw [hr] at hr2
  injection hr2 with e1 e2
  subst e1 e2
  intro g cur e' q hgg ft x hx
  simp only [Value.ownBlock,Option.some.injEq] at hgg
  subst hgg
  rw [show w.heap.size=w.drew.heap.size from rfl,heap_alloc_new] at ft
  cases ft
  simp only [Array.toList_append,List.mem_append] at hx
  rcases hx with hx | hx
  ·exact hnn x (by simpa using hx)
  ·exact jB hzn (by omega) _ x hx
 ·by_cases hroom:n+1<=cap
  ·have hfit:n*i0.size+news.length<=cur.size:=by
    rw [h5,hl,<- Nat.succ_mul];exact Nat.mul_le_mul_right _ hroom
   have hr2:=run_append_room (P:=Tryz.prog) (w:=w) t ty e i0 hU hi g n cap cur hh a 1 c news hl1 hnews hone hroom hfit
   rw [hr] at hr2
   injection hr2 with e1 e2
   subst e1 e2
   intro g' cur' e' q hgg ft x hx
   simp only [Value.ownBlock,Option.some.injEq] at hgg
   subst hgg
   rw [setRow_heap w g cur _ _ _ hh] at ft
   cases ft
   simp only [List.mem_append] at hx
   rcases hx with (hx | hx) | hx
   ·exact h.2 g cur _ _ rfl hh x (List.mem_of_mem_take hx)
   ·exact hnn x hx
   ·exact h.2 g cur _ _ rfl hh x (List.mem_of_mem_drop hx)
  ·have holds:∀(j:Nat) u,xs[j]?=some u->w.cell? (Addr.add ⟨g,0,none⟩ j)=some u:=h.1.cells (g:=g) rfl
   have hr2:=run_append_grow (P:=Tryz.prog) (w:=w) t ty e i0 z hU hi hz0 ⟨g,0,none⟩ n cap xs h.1.1 holds a 1 c news hl1 hnews (by omega) (by omega) (growslice_fits (by omega) (by rw [hz2];exact hby))
   rw [hr] at hr2
   injection hr2 with e1 e2
   subst e1 e2
   intro g' cur' e' q hgg ft x hx
   simp only [Value.ownBlock,Option.some.injEq] at hgg
   subst hgg
   rw [show w.heap.size=w.drew.heap.size from rfl,heap_alloc_new] at ft
   cases ft
   simp only [Array.toList_append,List.mem_append] at hx
   rcases hx with (hx | hx) | hx
   ·exact hL x (by simpa using hx)
   ·exact hnn x (by simpa using hx)
   ·exact jB hzn (by omega) _ x hx
end
end Go.Proofs.YtbjfgffibepmkaaGreat
namespace Go.Proofs.YtbjfgffibepmkaaGreat.Sym
open Go.RowKit
variable {T U:TypeId}{u y:Value}
def aC (sz:Nat) (e:TypeId) (F:PH) (n:Nat) (w:World) (v:Value):Prop:=
 ∃rows:List (List Value),rows.length=n∧(∀r,r ∈ rows->r.length=sz)∧dR sz e w v n rows.flatten∧∀i r,rows[i]?=some r->F i w (.agg r.toArray)
theorem vV {sz:Nat}:∀{rows:List (List Value)},(∀r,r ∈ rows->r.length=sz)->∀{i j:Nat}{r:List Value}{u:Value},rows[i]?=some r->r[j]?=some u->rows.flatten[i*sz+j]?=some u
 | [],_,i,j,r,u,h,_=>by simp at h
 | r0 :: rows,hl,0,j,r,u,h,hj=>by
  simp at h
  subst h
  have hlt:=(List.getElem?_eq_some_iff.1 hj).1
  rw [List.flatten_cons,Nat.zero_mul,Nat.zero_add,List.getElem?_append_left hlt]
  exact hj
 | r0 :: rows,hl,i+1,j,r,u,h,hj=>by
  have h0:=hl r0 (List.mem_cons_self ..)
  rw [List.flatten_cons,List.getElem?_append_right (by rw [h0,Nat.succ_mul];omega),h0,show (i+1)*sz+j-sz=i*sz+j by rw [Nat.succ_mul];omega]
  exact vV (fun r hr=>hl r (List.mem_cons_of_mem _ hr)) (by simpa using h) hj
section
variable {sz n:Nat}{e:TypeId}{F:PH}{w w':World}{v:Value}
theorem aC.nil (sz:Nat) (e:TypeId) (F:PH) (w:World):aC sz e F 0 w (.slice none 0 0):=⟨[],rfl,fun _ h=>by (cases h),dR.nil sz e w,fun i r h=>by simp at h⟩
theorem aC.arr (h:aC sz e F n w v):Arr sz F n w v:=by
 obtain ⟨rows,hl,hs,ho,hF⟩:=h
 rcases ho.1.2 with ⟨rfl,h2⟩ | ⟨g,cap,cur,rfl,hb,hh,h3,h4,h5,h6⟩
 ·exact ⟨none,0,by rw [h2],fun i hi=>by omega⟩
 ·refine ⟨_,cap,rfl,fun i hi=>?_⟩
  obtain ⟨r,hr⟩:∃r,rows[i]?=some r:=⟨rows[i],List.getElem?_eq_getElem (by omega)⟩
  refine ⟨g,0,rfl,r,hs r (List.mem_of_getElem? hr),fun j u hj=>?_,hF i r hr⟩
  have hx:=vV hs hr hj
  rw [<- h6,List.getElem?_take] at hx
  split at hx
  ·simp [World.cell?,hh]
   rw [<- Array.getElem?_toList]
   exact hx
  ·cases hx
theorem eM (v:Value):blk v=v.ownBlock:=by
 unfold blk Value.ownBlock
 split <;> simp_all
end
def bO (T U:TypeId):Op->Option (List Operand)
 | .call ⟨.builtin .append,args,ts⟩=>if ts = #[T,U] then some args.toList else none
 | _=>none
theorem lN {o:Op}{f:Operand->Value}{xs:List Operand} (h:bO T U o=some xs) (hl:xs.map f = [y,u]):∃a b,o = .call ⟨.builtin .append,#[a,b],#[T,U]⟩∧xs = [a,b]∧f a=y∧f b=u:=by
 unfold bO at h
 split at h
 case h_2=>cases h
 rename_i args ts
 split at h
 case isFalse=>cases h
 rename_i hts
 subst hts
 simp only [Option.some.injEq] at h
 subst h
 match hl':args.toList,hl with
 | [a,b],hl=>
  have hargs:args = #[a,b]:=by apply Array.ext';simpa using hl'
  subst hargs
  simp only [List.map_cons,List.map_nil,List.cons.injEq,and_true] at hl
  exact ⟨a,b,rfl,rfl,hl.1,hl.2⟩
theorem jC {P:Program}{o:Oper}{a b:Operand}{ac:Act}{w w':World}{v:Value} (ho:o.op = .call ⟨.builtin .append,#[a,b],#[T,U]⟩) (h1:ac.eval a=y) (h2:ac.eval b=u) (hr:(Builtin.append_ #[T,U] o.type #[y,u]).run P w = .ok v w'):(execOp ac.eval o).run P w = .ok (.value v) w':=by
 unfold execOp
 simp [ho,resolve,invoke,builtin,h1,h2,hr]
theorem Cc {Φ:PH}{p q x j sz n:Nat}{t e:TypeId}{F:PH}{i0:TypeInfo}{z:Value}{bytes:Nat} (hU:Tryz.prog.underlying t=some (.slice e)) (hi:Tryz.prog.info? e=some i0) (hz0:i0.zero=some z) (hz1:i0.size=sz) (hz2:i0.bytes=bytes) (hzs:z.cells.size=sz) (hzn:∀x,x ∈ z.cells.toList->cL x)
  (hF:∀i w w1 v,Kp w w1->F i w v->F i w1 v) (hp:∀w v,Φ p w v->aC sz e F n w v) (hq:∀w v,Φ q w v->F n w v) (hc:∀w (l:List Value),Φ q w (.agg l.toArray)->∀u,u ∈ l->u.oneCell'=true∧cL u) (hn:n<=1000000) (hx:Φ x=aC sz e F (n+1)) (hsz:0<sz:=by omega) (hbb:bytes<=1000:=by omega) :
  aj Φ Tryz.prog ⟨0,[.fact p,.row sz [q]],[oS x],.loose [] j 0 (bO t t)⟩:=fun X L w ac o ys hX hL hLX hm ha hb _=>by
 obtain ⟨y,u,hys⟩:∃y u,ys.map ac.eval = [y,u]:=by
  match ys.map ac.eval,ha with
  | [y,u],_=>exact ⟨y,u,rfl⟩
 rw [show List.map ac.eval ys = [y,u] from hys] at ha
 ·obtain ⟨a,b,ho,rfl,ea,eb⟩:=lN hm hys
  obtain ⟨h1,⟨g,hu,⟨l,hl,hcells,hl3⟩,-⟩,-⟩:=ha
  obtain ⟨rows,r1,r2,r3,r4⟩:=hp _ _ (h1 w (Off.refl _ _))
  have hql:=hl3 w (Off.refl _ _)
  have hu':u = .slice (some ⟨g,0,none⟩) 1 1:=hu
  obtain ⟨v',w',hr,ho',hg,hbl⟩:=xk t o.type hU hi hz0 hz1 hz2 hzs hsz hbb hzn r3 ⟨g,0,none⟩ 1 l hl (fun k v hk=>by rw [Addr.add_lit];exact hcells k v hk) (fun v hv=>(hc w l hql v hv).1) (fun v hv=>(hc w l hql v hv).2) hn
  have hkp:=r3.kp hg
  have hLy:∀m,y.ownBlock=some m->L m:=fun m hm'=>hb a m rfl (by rw [ea,eM];exact hm')
  have hv':∀m,v'.ownBlock=some m->L m∨m=w.heap.size:=fun m hm'=>by
   rcases hbl with h | h
   ·exact .inl (hLy m (by rw [<- h];exact hm'))
   ·rw [hm'] at h;exact .inr (Option.some.inj h)
  have hrun:=jC (o:=o) (P:=Tryz.prog) ho ea (by rw [eb,hu']) hr
  refine ⟨v',w',y.ownBlock,hrun,hg,hLy,hkp,fun m k v hm' h4 h5=>?_,fun m hm'=>?_,?_⟩
  ·have hbk:=hg.block m (World.block_lt_of_cell? _ _ h4) (fun e'=>hm' m e'.symm rfl)
   refine ⟨by rw [World.cell?_of_block hbk];exact h4,?_⟩
   simp only [World.frozen?,hbk] at h5 ⊢
   exact h5
  ·rw [eM] at hm'
   refine ⟨ho'.lt m hm',?_⟩
   rcases hv' m hm' with h | h
   ·exact .inl h
   ·exact .inr (by omega)
  ·obtain ⟨p1,n1,c1,rfl⟩:∃p n c,v' = .slice p n c:=by
    rcases ho'.1.2 with ⟨h,-⟩ | ⟨_,_,_,h,-⟩ <;> exact ⟨_,_,_,h⟩
   refine ⟨⟨⟨⟨_,_,_,rfl⟩,fun _ h=>by cases h⟩,fun s hs w1 hw=>?_⟩,trivial⟩
   simp only [List.mem_singleton] at hs
   subst hs
   show Φ x w1 _
   rw [hx]
   refine ⟨rows ++ [l],by simp [r1],fun r hr=>?_,?_,fun i r hr=>?_⟩
   ·rcases List.mem_append.1 hr with hr | hr
    ·exact r2 r hr
    ·rw [List.mem_singleton.1 hr,hl]
   ·rw [List.flatten_append,List.flatten_singleton]
    refine ho'.keep fun m hm'=>hw.2 m (ho'.lt m hm') fun hx'=>?_
    rcases hv' m hm' with h | h
    ·exact hLX m h hx'
    ·have:=hX m hx';omega
   ·rw [List.getElem?_append] at hr
    split at hr
    ·exact hF _ _ _ _ (hkp.trans hw.1) (r4 i r hr)
    ·rename_i hge
     have hi':i=n:=by
      have:=(List.getElem?_eq_some_iff.1 hr).1
      simp at this
      omega
     subst hi'
     rw [r1,Nat.sub_self] at hr
     simp at hr
     subst hr
     exact hF _ _ _ _ (hkp.trans hw.1) (hq _ _ hql)
end Go.Proofs.YtbjfgffibepmkaaGreat.Sym
namespace Go.Proofs.YtbjfgffibepmkaaGreat
open Go.RowKit
def setMany:List Value->Nat->List Value->List Value
 | xs,_,[]=>xs
 | xs,o,v :: vs=>setMany (xs.set o v) (o+1) vs
theorem EJ:∀(l p r t:List Value),r.length=l.length->setMany (p ++ (r ++ t)) p.length l=p ++ (l ++ t)
 | [],p,r,t,h=>by
  have:r = []:=List.eq_nil_of_length_eq_zero h
  subst this;rfl
 | v :: l,p,[],t,h=>by simp at h
 | v :: l,p,u :: r,t,h=>by
  rw [setMany]
  have e:(p ++ ((u :: r) ++ t)).set p.length v=(p ++ [v]) ++ (r ++ t):=by
   rw [List.set_append_right _ _ (Nat.le_refl _),Nat.sub_self];simp
  rw [e,show p.length+1=(p ++ [v]).length by simp,EJ l (p ++ [v]) r t (by simpa using h)]
  simp
theorem jc {sz:Nat}:∀{rows:List (List Value)},(∀r,r ∈ rows->r.length=sz)->rows.flatten.length=rows.length*sz
 | [],_=>by simp
 | r :: rows,h=>by
  rw [List.flatten_cons,List.length_append,h r (List.mem_cons_self ..),jc (fun r hr=>h r (List.mem_cons_of_mem _ hr)),List.length_cons,Nat.succ_mul];omega
theorem YY {sz i:Nat}{rows:List (List Value)}{l:List Value} (h:∀r,r ∈ rows->r.length=sz) (hl:l.length=sz) (hi:i<rows.length:=by omega):(rows.set i l).flatten=setMany rows.flatten (i*sz) l:=by
 have e1:rows.flatten=(rows.take i).flatten ++ (rows[i] ++ (rows.drop (i+1)).flatten):=by
  conv=>lhs;rw [<- List.take_append_drop i rows,List.drop_eq_getElem_cons hi]
  rw [List.flatten_append,List.flatten_cons]
 have e2:(rows.take i).flatten.length=i*sz:=by
  rw [jc (sz:=sz) (fun r hr=>h r (List.mem_of_mem_take hr)),List.length_take,Nat.min_eq_left (by omega)]
 rw [e1,<- e2,EJ l _ _ _ (by rw [hl];exact h _ (List.getElem_mem hi)),List.set_eq_take_append_cons_drop,if_pos hi,List.flatten_append,List.flatten_cons]
section
variable {sz n cap g:Nat}{e:TypeId}{w:World}
theorem dR.storeCells:∀(vs:List Value) (o:Nat) (xs:List Value) (w:World),dR sz e w (.slice (some ⟨g,0,none⟩) n cap) n xs->(∀v,v ∈ vs->cL v)->dR sz e (w.setCells g o vs) (.slice (some ⟨g,0,none⟩) n cap) n (setMany xs o vs)
 | [],_,_,_,h,_=>h
 | v :: vs,o,xs,w,h,hv=>by
  obtain ⟨h1,h2⟩:=h.1.stored o v
  refine dR.storeCells vs (o+1) (xs.set o v) _ ⟨h1,fun g' cur e' p hg hh x hx=>?_⟩ (fun u hu=>hv u (List.mem_cons_of_mem _ hu))
  simp only [Value.ownBlock,Option.some.injEq] at hg
  subst hg
  rcases h.1.2 with ⟨h',_⟩ | ⟨g',cap',cur',h',_,hg',_⟩
  ·simp at h'
  ·simp only [Value.slice.injEq,Option.some.injEq,Addr.mk.injEq,and_true,true_and] at h'
   obtain ⟨rfl,rfl⟩:=h'
   rw [heap_setCell_same w g o cur' e v hg'] at hh
   cases hh
   rw [Array.toList_setIfInBounds] at hx
   rcases List.mem_or_eq_of_mem_set hx with hx | hx
   ·exact h.2 g cur' _ _ rfl hg' x hx
   ·subst hx;exact hv _ (List.mem_cons_self ..)
end
end Go.Proofs.YtbjfgffibepmkaaGreat
namespace Go.Proofs.YtbjfgffibepmkaaGreat.Sym
open Go.RowKit
variable {e t:TypeId}
def At (sz:Nat) (_:World) (v:Value):Prop:=∃(b off n c k:Nat),v = .agg #[.slice (some ⟨b,off,none⟩) n c,.int .i64 (k:Int),.pointer (some ⟨b,off+k*sz,none⟩)]
def fB (T:TypeId) (xS xI:Operand):Op->Option (List Operand)
 | .store t x y=>if t=T then some [xS,xI,x,y] else none
 | _=>none
def fK (T:TypeId):Op->Option (List Operand)
 | .makeSlice t x y=>if t=T then some [x,y] else none
 | _=>none
section
variable {P:Program}{Φ:PH}{p q r x y sz n i j:Nat}{F F':PH}
theorem Pq {T:TypeId} (hT:P.underlying T=some (.slice e)) (hz:dg P e=some sz) (hp:∀w v,Φ p w v->Arr sz F n w v) (hq:∀w v,Φ q w v->v = .int .i64 (i:Int)) (hi:i<n) (hx:Φ x=Ptr sz (F i)) (hy:Φ y=At sz) (J:List Nat) :
  aj Φ P ⟨0,[.fact p,.fact q],[oP x],.joint J y (aN T)⟩:=fun X w ac o xs hX hm ha=>by
 obtain ⟨u,w',h1,h2,h3⟩:=nE hT hz hp hq hi hx X w ac o xs hX hm ha
 unfold aN at hm
 split at hm
 case h_2=>cases hm
 rename_i t a b ho
 split at hm
 case isFalse=>cases hm
 rename_i ht
 subst ht
 simp only [Option.some.injEq] at hm
 subst hm
 refine ⟨u,w',h1,h2,h3,fun w1 _=>?_⟩
 obtain ⟨s,c,hv,he⟩:=hp _ _ (ha.1 w (Off.refl _ _))
 obtain ⟨g,off,rfl,_⟩:=he i hi
 have hi2:=hq _ _ (ha.2.1 w (Off.refl _ _))
 have hr:(execOp ac.eval o).run P w = .ok (.value (.pointer (some ⟨g,off+i*sz,none⟩))) w:=by
  unfold execOp
  have h4:¬n<=i:=by omega
  simp [ho,hv,hi2,Instr.indexAt,asIntOf,run_underlying hT,run_sizeOf hz,gV,h4]
 rw [h1] at hr
 injection hr with e1 e2
 injection e1 with e1
 subst e1
 rw [hy]
 exact ⟨g,off,n,c,i,by simp [hv,hi2]⟩
theorem iz {G:WP} (xS xI:Operand) (hp:∀w v,Φ p w v->aC sz e F n w v) (hq:∀w v,Φ q w v->v = .int .i64 (i:Int)) (hr:∀w v,Φ r w v->G w v) (hy:Φ y=At sz)
  (hc:∀w v,Φ r w v->∃l:List Value,v = .agg l.toArray∧l.length=sz∧∀u,u ∈ l->u.oneCell'=true∧cL u) (hF:∀k w w1 v,Kp w w1->F k w v->F k w1 v) (hG:∀w w1 v,Kp w w1->G w v->G w1 v) (hF':∀k w v,k≠i->F k w v->F' k w v) (hG':∀w v,G w v->F' i w v) (hx:Φ x=aC sz e F' n) (hz:dg P t=some sz:=by kernel_rfl) (hi:i<n:=by omega) :
  aj Φ P ⟨0,[.fact p,.fact q,.any,.fact r],[oS x],.put [] j 0 y (fB t xS xI)⟩:=fun X L w ac o xs hX hL hLX hm ha hjt hb=>by
 unfold fB at hm
 split at hm
 case h_2=>cases hm
 rename_i t' a b ho
 split at hm
 case isFalse=>cases hm
 rename_i ht
 subst ht
 simp only [Option.some.injEq] at hm
 subst hm
 obtain ⟨rows,r1,r2,r3,r4⟩:=hp _ _ (ha.1 w (Off.refl _ _))
 have hi2:=hq _ _ (ha.2.1 w (Off.refl _ _))
 have hval:=ha.2.2.2.1
 obtain ⟨l,hl1,hl2,hl3⟩:=hc _ _ (hval w (Off.refl _ _))
 have hgv:=hr _ _ (hval w (Off.refl _ _))
 have hAt:=hjt w (Off.refl _ _)
 rw [hy] at hAt
 obtain ⟨g,off,n1,c,k,hAt⟩:=hAt
 simp only [List.dropLast_cons_cons,List.dropLast_singleton,List.map_cons,List.map_nil,Value.agg.injEq,Array.mk.injEq,List.cons.injEq,and_true] at hAt
 obtain ⟨h1,h2,h3⟩:=hAt
 have hk:k=i:=by
  rw [hi2] at h2
  injection h2 with _ h2
  omega
 subst hk
 rw [h1] at r3
 have hoff:off=0∧n1=n:=by
  rcases r3.1.2 with ⟨h',_⟩ | ⟨g',cap',cur',h',_⟩
  ·simp at h'
  ·simp only [Value.slice.injEq,Option.some.injEq,Addr.mk.injEq,and_true] at h'
   exact ⟨h'.1.2,h'.2.1⟩
 obtain ⟨rfl,rfl⟩:=hoff
 rw [Nat.zero_add] at h3
 have hbound:∀m,m<l.length->k*sz+m<n1*sz:=fun m hm=>by
  have:(k+1)*sz<=n1*sz:=Nat.mul_le_mul_right _ hi
  rw [Nat.succ_mul] at this
  omega
 have hcell:∀m,m<l.length->(w.cell? ⟨g,k*sz+m,none⟩).isSome=true:=fun m hm=>by
  rw [r3.1.cellAt _ (hbound m hm),List.getElem?_eq_getElem (by rw [r3.1.1];exact hbound m hm)];rfl
 have hrun:=run_storeCells_cells (P:=P) g (k*sz) l 0 w (fun m hm=>by rw [Nat.add_zero];exact hcell m hm) (fun m _=>r3.1.frozenAt _) (fun v hv=>(hl3 v hv).1)
 rw [Nat.add_zero] at hrun
 have hst:=dR.storeCells l (k*sz) rows.flatten w r3 (fun v hv=>(hl3 v hv).2)
 have hgr:w.grownBy (w.setCells g (k*sz) l) (some g):=iw g _ _ _
 have hkp:Kp w (w.setCells g (k*sz) l):=r3.kp hgr
 have hLg:L g:=hb xS g rfl (by rw [h1];rfl)
 refine ⟨w.setCells g (k*sz) l,some g,?_,hgr,fun m hm=>Option.some.inj hm▸hLg,hkp,fun m q v hm h4 h5=>?_,fun x0 hx0=>?_⟩
 ·have e0:Instr.sureAddr (.pointer (some ⟨g,k*sz,none⟩))=pure ⟨g,k*sz,none⟩:=rfl
  unfold execOp
  simp only [ho,h3,hl1]
  simp only [Instr.storeAt,e0,storeVar,Value.cells,Sem.run_bind,Sem.run_pure,Result.andThen_ok,run_sizeOf hz]
  simp [hrun,hl2]
 ·have hbk:=hgr.block m (World.block_lt_of_cell? _ _ h4) (fun e'=>hm m e'.symm rfl)
  refine ⟨by rw [World.cell?_of_block hbk];exact h4,?_⟩
  simp only [World.frozen?,hbk] at h5 ⊢
  exact h5
 ·simp only [List.dropLast_cons_cons,List.getElem?_cons_zero,Option.some.injEq] at hx0
  subst hx0
  rw [h1]
  refine ⟨⟨⟨⟨_,_,_,rfl⟩,fun _ h=>by cases h⟩,fun s hs w1 hw=>?_⟩,trivial⟩
  simp only [List.mem_singleton] at hs
  subst hs
  show Φ x w1 _
  rw [hx]
  refine ⟨rows.set k l,by simp [r1],fun r' hr'=>?_,?_,fun m r' hr'=>?_⟩
  ·rcases List.mem_or_eq_of_mem_set hr' with h | h
   ·exact r2 r' h
   ·rw [h,hl2]
  ·rw [YY r2 hl2]
   refine hst.keep fun m hm'=>hw.2 m (hst.lt m hm') fun hx'=>?_
   simp only [Value.ownBlock,Option.some.injEq] at hm'
   subst hm'
   exact hLX _ hLg hx'
  ·rw [List.getElem?_set] at hr'
   split at hr'
   ·rename_i e'
    subst e'
    split at hr'
    ·simp only [Option.some.injEq] at hr'
     subst hr'
     rw [<- hl1]
     exact hG' _ _ (hG _ _ _ (hkp.trans hw.1) hgv)
    ·cases hr'
   ·rename_i e'
    exact hF' _ _ _ (fun h=>e' h.symm) (hF _ _ _ _ (hkp.trans hw.1) (r4 m r' hr'))
theorem EK {z:Array Value} (hz:z.size=sz) (h0:0<sz):(madeCells z (n*sz)).toList=(List.replicate n z.toList).flatten:=by
 have hall:∀r,r ∈ List.replicate n z.toList->r.length=sz:=fun r hr=>by rw [(List.mem_replicate.1 hr).2];simpa using hz
 apply List.ext_getElem?
 intro j
 by_cases hj:j<n*sz
 ·have hi:j / sz<n:=Nat.div_lt_of_lt_mul (by rw [Nat.mul_comm];exact hj)
  have hm:j % sz<z.size:=by rw [hz];exact Nat.mod_lt _ h0
  have h1:=vV hall (i:=j / sz) (j:=j % sz) (r:=z.toList) (u:=z[j % sz]) (by simp [hi]) (by simp [hm])
  rw [Nat.mul_comm,Nat.div_add_mod] at h1
  rw [h1]
  simp only [madeCells,Array.toList_map,List.getElem?_map,Array.getElem?_toList]
  rw [Array.getElem?_eq_getElem (by simpa using hj)]
  simp [hz,getElem!_pos z (j % sz) hm]
 ·rw [List.getElem?_eq_none (by rw [Array.length_toList,size_madeCells];omega),List.getElem?_eq_none (by rw [jc hall,List.length_replicate];omega)]
theorem sB {i0:TypeInfo}{z:Value}{bytes:Nat} (hU:P.underlying t=some (.slice e)) (hi:P.info? e=some i0) (hz0:i0.zero=some z) (hz1:i0.size=sz) (hz2:i0.bytes=bytes) (hzs:z.cells.size=sz) (hzn:∀u,u ∈ z.cells.toList->cL u) (hp:∀w v,Φ p w v->v = .int .i64 (n:Int)) (hn:n<=1000000) (hF:∀k w,F k w (.agg z.cells)) (hx:Φ x=aC sz e F n) (hsz:0<sz:=by omega) (hbb:bytes<=1000:=by omega) :
  aj Φ P ⟨0,[.fact p,.fact p],[oS x],.loose [] j 0 (fK t)⟩:=fun X L w ac o xs hX hL hLX hm ha hb _=>by
 unfold fK at hm
 split at hm
 case h_2=>cases hm
 rename_i t' a b ho
 split at hm
 case isFalse=>cases hm
 rename_i ht
 subst ht
 simp only [Option.some.injEq] at hm
 subst hm
 have h1:=hp _ _ (ha.1 w (Off.refl _ _))
 have h2:=hp _ _ (ha.2.1 w (Off.refl _ _))
 have hby:i0.bytes*n<=281474976710656:=by
  rw [hz2]
  exact Nat.le_trans (Nat.mul_le_mul hbb hn) (by decide)
 have hr:=run_make (P:=P) w t' e i0 z hU hi hz0 .i64 .i64 n n (by omega) (Int.le_refl _) (by have h:((i0.bytes*n:Nat):Int)<=281474976710656:=(by omega);rwa [Int.natCast_mul] at h) (by omega)
 simp only [Int.toNat_natCast,hz1] at hr
 have hrow:=World.ownsRow_lit (base:=0) (e:=e) (size:=sz) w (madeCells z.cells (n*sz)) n (by omega) (by simp only [maxLen];omega) (size_madeCells _ _)
 have hg:=World.grownBy_alloc w (.cells (madeCells z.cells (n*sz)) e) none
 rw [EK hzs hsz] at hrow
 refine ⟨.slice (some ⟨w.heap.size,0,none⟩) n n,w.alloc (.cells (madeCells z.cells (n*sz)) e),none,?_,hg,fun _ h=>(by cases h),Kp.of hg,fun m q v _ h4 h5=>⟨cell_grown hg h4,gz hg h4 h5⟩,fun m hm=>?_,⟨⟨⟨⟨_,_,_,rfl⟩,fun _ h=>by cases h⟩,fun s hs w1 hw=>?_⟩,trivial⟩⟩
 ·unfold execOp
  simp [ho,h1,h2,hr]
 ·simp only [blk,Option.some.injEq] at hm
  subst hm
  exact ⟨by simp,.inr (Nat.le_refl _)⟩
 ·simp only [List.mem_singleton] at hs
  subst hs
  show Φ x w1 _
  rw [hx]
  show aC sz e F n w1 (.slice (some ⟨w.heap.size,0,none⟩) n n)
  refine ⟨List.replicate n z.cells.toList,by simp,fun r' hr'=>by rw [(List.mem_replicate.1 hr').2];simpa using hzs,?_,fun m r' hr'=>?_⟩
  ·refine dR.keep (w:=w.alloc (.cells (madeCells z.cells (n*sz)) e)) ⟨hrow,fun g cur e' p' hg' hh u hu=>?_⟩ fun g hg'=>?_
   ·simp only [Value.ownBlock,Option.some.injEq] at hg'
    subst hg'
    rw [heap_alloc_new] at hh
    cases hh
    rw [EK hzs hsz] at hu
    obtain ⟨l,hl,hul⟩:=List.mem_flatten.1 hu
    rw [(List.mem_replicate.1 hl).2] at hul
    exact hzn u hul
   ·simp only [Value.ownBlock,Option.some.injEq] at hg'
    subst hg'
    exact hw.2 _ (by simp) (fun h=>by have:=hX _ h;omega)
  ·have:=(List.mem_replicate.1 (List.mem_of_getElem? hr')).2
   subst this
   exact hF m w1
end
end Go.Proofs.YtbjfgffibepmkaaGreat.Sym
