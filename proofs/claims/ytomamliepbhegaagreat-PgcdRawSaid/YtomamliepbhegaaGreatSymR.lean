/- Functions that write int -/
import Derived.Test.YtomamliepbhegaaGreatSymM
namespace Go.Proofs.YtomamliepbhegaaGreat.Sym
open Go.RowKit
variable {w:World}{f:FuncId}{fn:Func}{s0:Option Addr}{m0 n0:Nat}
section
variable {P:Program}{Φ:Nat->World->Value->Prop}{X:Nat->Prop}
def iu (w:World) (v:Value) (w1:World) (u:Value):Prop:=u=v∧Kp w w1∧∀k,k<w.heap.size->blk v≠some k->w1.heap[k]?=w.heap[k]?
theorem iu.off {w1:World}{v:Value} (h:Off (fun k=>blk v=some k) w w1):iu w v w1 v:=⟨rfl,h.1,fun k hk hb=>h.2 k hk hb⟩
def xr (Φ:Nat->World->Value->Prop) (P:Program) (f:FuncId) (ins:List Out) (p:Nat) (qs:List Nat) (res:List Out) (v:Value) (w:World):Prop:=∀(W0:World) (vs:List Value),(vs.flatMap cellsOf).getD 0 undef=v->W0.grownBy w none->
 bp Φ (fun k=>blk v=some k) w ins vs->(∀g,blk v=some g->W0.heap.size<=g∧g<w.heap.size)->
 (∀w1,Kp w w1->(∀k,k<w.heap.size->w1.heap[k]?=w.heap[k]?)->Φ p w1 v)->Calls P f vs.toArray w fun e w'=>∃u:Value,e = .returned u∧w.grownBy w' (blk v)∧Kp w w'∧bp Φ (fun _=>False) w' res [u]∧∀q,q ∈ qs->Φ q w' v
def Lo (P:Program) (fn:Func) (c:Code) (ins:List Out) (p pn:Nat) (qs:List Nat) (res:List Out) (ss:List Step):Bool:=
 decide (ins.length<=fn.ntmps) && ins.all (fun o=>o.sh.good) &&
 match dj P fn.ntmps c (start ins ++ [.held [1] (.one (.s 0 0)) p,.lo 1 (.s 0 0)]) 1 ss with
 | some (.exit _,_,_,_)=>false
 | some (_,st,_,_)=>(match fn.results.toList.mapM (jx P st),fz st 0 with
  | some cs,some (.c (.one y))=>st.any (iV (.one y) pn) && jy st cs res && cs.length == 1 && qs.all (fun q=>st.any (iV (.one y) q))
  | _,_=>false)
 | none=>false
def Lp (P:Program) (fn:Func) (ins:List Out) (p pn:Nat) (qs:List Nat) (res:List Out) (ss:List Step):Bool:=match fn.body with
 | some c=>Lo P fn c ins p pn qs res ss
 | none=>false
theorem Fw  (ins res:List Out) (p pn:Nat) (qs:List Nat) (ss:List Step) (hpn:Φ pn=iu w (.slice s0 n0 m0)) (hf:P.funcs[f]?=some fn) (hrun:Lp P fn ins p pn qs res ss=true) (hs:∀t,t ∈ ss->bZ P Φ t):xr Φ P f ins p qs res (.slice s0 n0 m0) w:=by
 intro W0 vs hv hgr hins hbl hp
 unfold Lp at hrun
 split at hrun
 case h_2=>cases hrun
 rename_i co hb
 simp only [Lo,Bool.and_eq_true,decide_eq_true_eq] at hrun
 obtain ⟨⟨hle,hgood⟩,hrun⟩:=hrun
 refine calls_of_wp hf hb ?_
 have hlen:=hins.length
 obtain ⟨e1,e2⟩:=eO (ρ:=aO) (k:=0) (l:=vs.flatMap cellsOf) (c:=0) hins hgood (fun j u hj=>by rw [Nat.zero_add];exact hj)
 have ze:∀x:Atom,x.ev { aO.put 0 (vs.flatMap cellsOf) with o:=fun j k=>j=1∧blk (.slice s0 n0 m0)=some k }=x.ev (aO.put 0 (vs.flatMap cellsOf)):=fun x=>bI _ _ x
 have evC:∀x:C,x.ev { aO.put 0 (vs.flatMap cellsOf) with o:=fun j k=>j=1∧blk (.slice s0 n0 m0)=some k }=x.ev (aO.put 0 (vs.flatMap cellsOf)):=fun x=>C.bI _ _ x
 have hat:(Atom.s 0 0).ev (aO.put 0 (vs.flatMap cellsOf)) = .slice s0 n0 m0:=by
  simp only [Atom.ev,Env.put,if_true,hv,asS]
 have hstart:cB Φ (fun _=>False) { W0 with drawn:=w.heap.size } fn.ntmps (start ins ++ [.held [1] (.one (.s 0 0)) p,.lo 1 (.s 0 0)]) { tmps:=vs.toArray ++ Array.replicate (fn.ntmps-vs.toArray.size) undef,defers:=[] } w:=by
  refine ⟨{ aO.put 0 (vs.flatMap cellsOf) with o:=fun j k=>j=1∧blk (.slice s0 n0 m0)=some k },⟨rfl,by simp;omega,oZ hgr,fun j k g h=>by simp [Env.put,aO] at h,fun k g h=>by simp [Env.put,aO] at h,fun k h=>h.elim,fun j k h=>hbl k h.2,fun i j k h=>by simp [Env.put,aO] at h,fun i j k h1 h2=>h1.1.trans h2.1.symm,⟨Nat.le_refl _,fun j k hj h=>by have:=h.1;omega⟩⟩,fun x hx=>?_⟩
  rcases List.mem_append.1 hx with hx | hx
  ·rcases List.mem_append.1 hx with hx | hx
   ·obtain ⟨m,y,rfl,hm⟩:=nK 0 hx
    simp only [Nat.zero_add,It.holds,SV.ev]
    rw [evC]
    have:vs[m]?=some (y.ev (aO.put 0 (vs.flatMap cellsOf))):=by have h:=congrArg (fun l:List Value=>l[m]?) e1;simp only [List.getElem?_map,hm,Option.map_some] at h;exact h.symm
    have hlt:=(List.getElem?_eq_some_iff.1 this).1
    rw [Array.getElem?_append_left (by simpa using hlt)]
    simpa using this
   ·obtain ⟨y,p,rfl,hy⟩:=e2 x hx
    refine fun w1 hw=>?_
    rw [evC]
    exact hy w1 (hw.1 |> fun h1=>⟨h1,fun k hk hn=>hw.2 k hk (fun ho=>by
     rcases ho with ho | ⟨j,ho⟩ | ⟨j,-,ho⟩
     ·exact ho
     ·simp [Env.put,aO] at ho
     ·exact hn ho.2)⟩)
  ·simp only [List.mem_cons,List.not_mem_nil,or_false] at hx
   rcases hx with rfl | rfl
   ·refine fun w1 hw=>?_
    rw [evC]
    have e:(C.one (.s 0 0)).ev (aO.put 0 (vs.flatMap cellsOf)) = .slice s0 n0 m0:=hat
    rw [e]
    refine hp w1 hw.1 fun k hk=>hw.2 k hk (fun ho=>?_)
    rcases ho with ho | ⟨j,ho⟩ | ⟨j,hj,ho⟩
    ·exact ho
    ·simp [Env.put,aO] at ho
    ·exact hj (by rw [ho.1];exact List.mem_cons_self ..)
   ·intro g hg
    rw [ze,hat] at hg
    exact ⟨rfl,hg⟩
 split at hrun
 case h_1=>cases hrun
 case h_3=>cases hrun
 rename_i x st k' r hne hr
 obtain ⟨_,hw⟩:=rG (X:=fun _=>False) (W:={ W0 with drawn:=w.heap.size }) co _ _ _ _ _ _ _ hr Φ hs
 refine hw _ (fun a w' hK=>?_) _ _ hstart
 split at hrun
 case h_2=>cases hrun
 rename_i cs y0 hcs _
 simp only [Bool.and_eq_true,beq_iff_eq] at hrun
 obtain ⟨⟨⟨hrp,hrf⟩,hr1⟩,hrq⟩:=hrun
 obtain ⟨ρ,hG,hx⟩:=hK
 have hres:=nH (P:=P) hx hcs
 have iA:=lm hrp hx w' (Off.refl _ _)
 rw [hpn] at iA
 obtain ⟨hpv,iA⟩:=iA
 match cs,hr1 with
 | [y],_=>
  have hg:=hG.grown
  have hpost:a.defers = []∧∃v,(results fn a.tmps).run P w' = .ok v w'∧(∃u:Value,Ending.returned v = .returned u∧w.grownBy w' (blk (.slice s0 n0 m0))∧Kp w w'∧bp Φ (fun _=>False) w' res [u]∧∀q,q ∈ qs->Φ q w' (.slice s0 n0 m0)):=by
   refine ⟨hG.defers,y.ev ρ,?_,_,rfl,⟨hg.os.trans hgr.os.symm,hg.tape.trans hgr.tape.symm,hg.output.trans hgr.output.symm,iA.1.1,fun k hk hb=>iA.2 k hk fun e=>hb e.symm⟩,iA.1,nJ hx hrf,fun q hq=>?_⟩
   ·rw [pC]
    simp [Array.mapM_eq_mapM_toList,hres]
   ·have:=lm (List.all_eq_true.1 hrq q hq) hx w' (Off.refl _ _)
    have e:(C.one y0).ev ρ = .slice s0 n0 m0:=hpv
    rwa [e] at this
  cases x with
  | normal=>exact hpost
  | ret=>exact hpost
  | exit id=>exact absurd rfl (hne id)
def mf (w:World) (B:Nat) (v:Value) (w1:World) (u:Value):Prop:=u=v∧Kp w w1∧∀k,k<w.heap.size->k≠B->blk v≠some k->w1.heap[k]?=w.heap[k]?
def oO (Φ:Nat->World->Value->Prop) (P:Program) (f:FuncId) (i0:Out) (gG:List (Nat×Nat×Nat)) (ins:List Out) (sz:Nat) (res cont:Out) (v:Value) (B:Nat) (w:World):Prop:=∀(W0:World) (l vs:List Value),l.headD undef=v->l.length=sz->W0.grownBy w none->W0.heap.size<=B->B<w.heap.size->blk v≠some B->
 (∀(i:Nat) (u:Value),l[i]?=some u->w.cell? ⟨B,i,none⟩=some u∧w.frozen? ⟨B,i,none⟩=false)->bp Φ (fun k=>k=B) w [i0] [.agg l.toArray]->(∀q,q ∈ gG->∀w1,Off (fun k=>k=B∨blk v=some k) w w1->Φ q.2.2 w1 (bw q.1 q.2.1 (.agg l.toArray)))->bp Φ (fun k=>k=B∨blk v=some k) w ins vs->(∀g,blk v=some g->W0.heap.size<=g∧g<w.heap.size)->
 Calls P f (.pointer (some ⟨B,0,none⟩) :: vs).toArray w fun e w'=>∃(u:Value) (l':List Value),e = .returned u∧Wr w w' (fun k=>k=B∨blk v=some k)∧l'.length=sz∧(∀(i:Nat) (u:Value),l'[i]?=some u->w'.cell? ⟨B,i,none⟩=some u∧w'.frozen? ⟨B,i,none⟩=false)∧bp Φ (fun _=>False) w' [res,cont] [u,.agg l'.toArray] ∧
  ∀b,blk (l'.headD undef)=some b->blk v=some b∨w.heap.size<=b∧b<w'.heap.size
def zL (i0:Out) (gG:List (Nat×Nat×Nat)) (ins:List Out) (sz pn pp:Nat):List It:=
 .slot 0 (.c (.one (.ptr 0 0))) :: .fact (.one (.ptr 0 0)) pp :: .fact (.one (.s 0 0)) pn :: .lo 1 (.s 0 0) :: (fA 0 0 (i0.sh.comp 0 0).cells ++ ((facts 0 0 [i0]).map (pi [1]) ++ (gG.map (fun q=>It.fact (bj q.1 q.2.1 (i0.sh.comp 0 0)) q.2.2) ++ (rC 0 1 sz ins ++ facts 0 sz ins))))
def Lq (st:List It) (pn:Nat):List Atom->Bool
 | a :: _=>st.any (iV (.one a) pn) || a.beq .nl || match Ln st a with
  | some j=>decide (2<=j)
  | none=>false
 | []=>true
def Lr (P:Program) (fn:Func) (c:Code) (i0:Out) (gG:List (Nat×Nat×Nat)) (ins:List Out) (sz pn pp pq:Nat) (res cont:Out) (ss:List Step):Bool:=
 decide (ins.length+1<=fn.ntmps) && (i0 :: ins).all (fun o=>o.sh.good) && decide ((i0.sh.comp 0 0).cells.length=sz) && decide (i0.sh.len=sz) && ((i0.sh.comp 0 0).cells.headD .un).beq (.s 0 0) &&
 match dj P fn.ntmps c (zL i0 gG ins sz pn pp) 1 ss with
 | some (.exit _,_,_,_)=>false
 | some (_,st,_,_)=>(match fn.results.toList.mapM (jx P st),fL st 0 0 sz with
  | some cs,some l=>st.any (iV (.one (.s 0 0)) pn) && st.any (iV (.one (.ptr 0 0)) pp) && jy st (cs ++ [.agg l]) [res,cont] && cs.length == 1 && Lq st pq l
  | _,_=>false)
 | none=>false
def Ls (P:Program) (fn:Func) (i0:Out) (gG:List (Nat×Nat×Nat)) (ins:List Out) (sz pn pp pq:Nat) (res cont:Out) (ss:List Step):Bool:=match fn.body with
 | some c=>Lr P fn c i0 gG ins sz pn pp pq res cont ss
 | none=>false
theorem tz  (i0:Out) (gG:List (Nat×Nat×Nat)) (ins:List Out) (sz:Nat) (res cont:Out) (pn pp pq:Nat){B:Nat} (ss:List Step) (hpn:Φ pn=mf w B (.slice s0 n0 m0)) (hpp:Φ pp=fun _ u=>u = .pointer (some ⟨B,0,none⟩)) (hpq:Φ pq=mf w B (.slice s0 n0 m0)) (hf:P.funcs[f]?=some fn) (hrun:Ls P fn i0 gG ins sz pn pp pq res cont ss=true) (hs:∀t,t ∈ ss->bZ P Φ t):oO Φ P f i0 gG ins sz res cont (.slice s0 n0 m0) B w:=by
 intro W0 l vs hv hl hgr hB hB2 hvB hcl Lt af0 hins hbl
 unfold Ls at hrun
 split at hrun
 case h_2=>cases hrun
 rename_i co hb
 simp only [Lr,Bool.and_eq_true,decide_eq_true_eq] at hrun
 obtain ⟨⟨⟨⟨⟨hle,hgood⟩,hsz⟩,hsl⟩,hhd⟩,hrun⟩:=hrun
 simp only [List.all_cons,Bool.and_eq_true] at hgood
 refine calls_of_wp hf hb ?_
 have hlen:=hins.length
 obtain ⟨L,hL⟩:∃L,l ++ vs.flatMap cellsOf=L:=⟨_,rfl⟩
 have hcells:cellsOf (.agg l.toArray)=l:=rfl
 obtain ⟨e1,e2⟩:=eO (ρ:=aO) (k:=0) (l:=L) (c:=0) Lt (by simp [hgood.1]) (fun j u hj=>by
  simp only [List.flatMap_cons,List.flatMap_nil,List.append_nil,hcells] at hj
  rw [Nat.zero_add,<- hL,List.getElem?_append_left (List.getElem?_eq_some_iff.1 hj).1];exact hj)
 obtain ⟨e3,e4⟩:=eO (ρ:=aO) (k:=0) (l:=L) (c:=sz) hins hgood.2 (fun j u hj=>by
  rw [<- hL,List.getElem?_append_right (by omega),hl,Nat.add_sub_cancel_left];exact hj)
 simp only [fB,List.map_cons,List.map_nil,List.cons.injEq,and_true] at e1
 obtain ⟨ρ0,rH⟩:∃ρ0:Env,ρ0 = { (aO.put 0 L).box 0 B with o:=fun j k=>j=1∧blk (.slice s0 n0 m0)=some k }:=⟨_,rfl⟩
 have evA:∀x:Atom,x.st≠some 0∨(∀j o,x≠.ptr j o)∧(∀j o,x≠.row j o)->x.ev ρ0=x.ev (aO.put 0 L):=fun x hx=>by
  rw [rH,bI]
  rcases hx with hx | ⟨h1,h2⟩
  ·exact zp x hx
  ·cases x <;> first | rfl | exact absurd rfl (h1 _ _) | exact absurd rfl (h2 _ _)
 have hg0:ρ0.g 0=some B:=by rw [rH];rfl
 have hgI:∀j g,ρ0.g j=some g->j=0∧g=B:=fun j g h=>by
  rw [rH] at h
  simp only [Env.box,Env.put,aO] at h
  split at h
  ·exact ⟨‹_›,(Option.some.inj h).symm⟩
  ·cases h
 have ho:∀j k,ρ0.o j k->j=1∧blk (.slice s0 n0 m0)=some k:=fun j k h=>by rw [rH] at h;exact h
 have Lu:∀{k c:Nat}{xs:List Sh}{a:Atom},a ∈ lh k c xs->xs.all Sh.good=true->(∀j o,a≠.ptr j o)∧(∀j o,a≠.row j o):=by
  intro k c xs
  induction xs generalizing c with
  | nil=>intro a h;cases h
  | cons x xs ih=>
   intro a h hg
   simp only [List.all_cons,Bool.and_eq_true] at hg
   rcases List.mem_cons.1 h with rfl | h
   ·cases x with
    | lit b=>
     have:=hg.1
     simp only [Sh.good,Option.isNone_iff_eq_none] at this
     refine ⟨fun j o e=>?_,fun j o e=>?_⟩ <;> simp only [Sh.atom] at e <;> rw [e] at this <;> cases this
    | _=>exact ⟨fun j o e=>(by cases e),fun j o e=>(by cases e)⟩
   ·exact ih h hg.2
 have evC:∀(o:Out) (c:Nat),o.sh.good=true->(o.sh.comp 0 c).ev ρ0=(o.sh.comp 0 c).ev (aO.put 0 L):=fun o c hg=>by
  cases hsh:o.sh with
  | one x=>
   rw [hsh] at hg
   exact evA _ (.inr (Lu (k:=0) (c:=c) (xs:=[x]) (List.mem_cons_self ..) (by simpa [bK.good] using hg)))
  | agg xs=>
   rw [hsh] at hg
   simp only [bK.comp,C.ev]
   congr 1
   congr 1
   exact List.map_congr_left fun a ha=>evA a (.inr (Lu ha hg))
 have zf:∀(o l:Nat) (x:C),x.ev ρ0=x.ev (aO.put 0 L)->(bj o l x).ev ρ0=(bj o l x).ev (aO.put 0 L):=fun o l x h=>by rw [ks,ks,h]
 have Lv:∀{os:List Out}{c:Nat},os.all (fun o=>o.sh.good)=true->∀x p,It.fact x p ∈ facts 0 c os->x.ev ρ0=x.ev (aO.put 0 L):=by
  intro os
  induction os with
  | nil=>intro c _ x p h;cases h
  | cons o os ih=>
   intro c hg x p h
   simp only [List.all_cons,Bool.and_eq_true] at hg
   rcases List.mem_append.1 h with h | h
   ·obtain ⟨q,_,hq⟩:=List.mem_map.1 h
    injection hq with h1 h2
    rw [<- h1]
    exact zf _ _ _ (evC o c hg.1)
   ·exact ih hg.2 x p h
 have zg:∀{os:List Out}{c m:Nat}{y:C},os.all (fun o=>o.sh.good)=true->(fB 0 c os)[m]?=some y->y.ev ρ0=y.ev (aO.put 0 L):=by
  intro os
  induction os with
  | nil=>intro c m y _ h;simp [fB] at h
  | cons o os ih=>
   intro c m y hg h
   simp only [List.all_cons,Bool.and_eq_true] at hg
   cases m with
   | zero=>
    simp only [fB,List.getElem?_cons_zero,Option.some.injEq] at h
    rw [<- h];exact evC o c hg.1
   | succ m=>
    simp only [fB,List.getElem?_cons_succ] at h
    exact ih hg.2 h
 obtain ⟨ys,hys⟩:∃ys,i0.sh = .agg ys:=by
  have h:=Lt.1.1
  cases hsh:i0.sh with
  | one x=>
   rw [hsh] at h
   exact absurd rfl (h.2 l.toArray)
  | agg ys=>exact ⟨ys,rfl⟩
 have e0:(i0.sh.comp 0 0).ev ρ0 = .agg l.toArray:=(evC i0 0 hgood.1).trans e1
 have e5:∀(q:Nat) (y:Atom),(i0.sh.comp 0 0).cells[q]?=some y->l[q]?=some (y.ev ρ0):=fun q y hy=>by
  rw [hys] at hy e0
  simp only [bK.comp,C.cells,C.ev,Value.agg.injEq] at hy e0
  have:=congrArg (fun (z:Array Value)=>z[q]?) e0
  simp only [List.getElem?_toArray,List.getElem?_map,hy,Option.map_some] at this
  exact this.symm
 have hat:(Atom.s 0 0).ev ρ0 = .slice s0 n0 m0:=by
  cases hcc:(i0.sh.comp 0 0).cells with
  | nil=>rw [hcc] at hhd;simp [Atom.beq] at hhd
  | cons y ts=>
   rw [hcc] at hhd
   have hy:y = .s 0 0:=Atom.di hhd
   have h6:=e5 0 y (by rw [hcc];rfl)
   rw [hy] at h6
   cases l with
   | nil=>cases h6
   | cons v l=>
    have:v=(Atom.s 0 0).ev ρ0:=Option.some.inj h6
    rw [<- this];exact hv
 have hstart:cB Φ (fun _=>False) { W0 with drawn:=w.heap.size } fn.ntmps (zL i0 gG ins sz pn pp) { tmps:=(.pointer (some ⟨B,0,none⟩) :: vs).toArray ++ Array.replicate (fn.ntmps-(Value.pointer (some ⟨B,0,none⟩) :: vs).toArray.size) undef,defers:=[] } w:=by
  refine ⟨ρ0,⟨rfl,by simp;omega,oZ hgr,fun j k g h1 h2=>by rw [(hgI j g h1).1,(hgI k g h2).1],fun k g h=>by obtain ⟨rfl,rfl⟩:=hgI k g h;exact ⟨hB,hB2⟩,fun k h=>h.elim,fun j k h=>hbl k (ho j k h).2,fun i j k h1 h2=>by obtain ⟨-,rfl⟩:=hgI j k h1;exact hvB (ho i _ h2).2,fun i j k h1 h2=>(ho i k h1).1.trans (ho j k h2).1.symm,⟨Nat.le_refl _,fun j k hj h=>by have:=(ho j k h).1;omega⟩⟩,fun x hx=>?_⟩
  unfold zL at hx
  rcases List.mem_cons.1 hx with rfl | hx
  ·simp only [It.holds,SV.ev,C.ev,Atom.ev,hg0]
   rw [Array.getElem?_append_left (by simp)]
   simp
  rcases List.mem_cons.1 hx with rfl | hx
  ·intro w1 hw
   rw [hpp]
   simp only [C.ev,Atom.ev,hg0]
   rfl
  rcases List.mem_cons.1 hx with rfl | hx
  ·intro w1 hw
   rw [hpn]
   refine ⟨hat,hw.1,fun k hk h1 h2=>hw.2 k hk fun h=>?_⟩
   rcases h with h | ⟨j,h⟩ | ⟨j,-,h⟩
   ·exact h
   ·exact h1 (hgI j k h).2
   ·exact h2 (ho j k h).2
  rcases List.mem_cons.1 hx with rfl | hx
  ·intro g hg
   rw [hat] at hg
   rw [rH]
   exact ⟨rfl,hg⟩
  rcases List.mem_append.1 hx with hx | hx
  ·obtain ⟨q,y,rfl,hq⟩:=pe hx
   obtain ⟨h7,h8⟩:=hcl q _ (e5 q y hq)
   exact ⟨B,hg0,by rw [Nat.zero_add];exact h7,by rw [Nat.zero_add];exact h8⟩
  rcases List.mem_append.1 hx with hx | hx
  ·obtain ⟨z,hz,rfl⟩:=List.mem_map.1 hx
   obtain ⟨y,p,rfl,hy⟩:=e2 z hz
   intro w1 hw1
   rw [Lv (by simp [hgood.1]) y p hz]
   refine hy w1 (hw1.wide fun m h=>?_)
   rcases h with h | ⟨j,h⟩ | ⟨j,h1,h⟩
   ·exact h.elim
   ·exact (hgI j m h).2
   ·exact absurd (List.mem_singleton.2 (ho j m h).1) h1
  rcases List.mem_append.1 hx with hx | hx
  ·obtain ⟨q,hq,rfl⟩:=List.mem_map.1 hx
   intro w1 hw1
   rw [ks,e0]
   refine af0 q hq w1 (hw1.wide fun m h=>?_)
   rcases h with h | ⟨j,h⟩ | ⟨j,-,h⟩
   ·exact h.elim
   ·exact .inl (hgI j m h).2
   ·exact .inr (ho j m h).2
  rcases List.mem_append.1 hx with hx | hx
  ·obtain ⟨m,y,rfl,hm⟩:=nK 0 hx
   simp only [It.holds,SV.ev]
   rw [zg hgood.2 hm]
   have:vs[m]?=some (y.ev (aO.put 0 L)):=by have h:=congrArg (fun l:List Value=>l[m]?) e3;simp only [List.getElem?_map,hm,Option.map_some] at h;exact h.symm
   have hlt:=(List.getElem?_eq_some_iff.1 this).1
   rw [Array.getElem?_append_left (by simp;omega)]
   simpa [Nat.add_comm 1 m] using this
  ·obtain ⟨y,p,rfl,hy⟩:=e4 x hx
   intro w1 hw1
   rw [Lv hgood.2 y p hx]
   refine hy w1 (hw1.wide fun m h=>?_)
   rcases h with h | ⟨j,h⟩ | ⟨j,-,h⟩
   ·exact h.elim
   ·exact .inl (hgI j m h).2
   ·exact .inr (ho j m h).2
 split at hrun
 case h_1=>cases hrun
 case h_3=>cases hrun
 rename_i x st k' r hne hr
 obtain ⟨_,hw⟩:=rG (X:=fun _=>False) (W:={ W0 with drawn:=w.heap.size }) co _ _ _ _ _ _ _ hr Φ hs
 refine hw _ (fun a w' hK=>?_) _ _ hstart
 split at hrun
 case h_2=>cases hrun
 rename_i cs l1 hcs Lw
 simp only [Bool.and_eq_true,beq_iff_eq] at hrun
 obtain ⟨⟨⟨⟨hrp,hrq⟩,hrf⟩,hr1⟩,hnh⟩:=hrun
 obtain ⟨ρ,hG,hx⟩:=hK
 have hres:=nH (P:=P) hx hcs
 have iA:=lm hrp hx w' (Off.refl _ _)
 rw [hpn] at iA
 obtain ⟨hps,hpk,hpb⟩:=iA
 have zM:=lm hrq hx w' (Off.refl _ _)
 rw [hpp] at zM
 have Ly:(ρ.g 0).getD 0=B:=by
  simp only [C.ev,Atom.ev,Value.pointer.injEq,Option.some.injEq,Addr.mk.injEq,and_true] at zM
  exact zM
 have hl1:=pf Lw
 have hcell:∀(q:Nat) (y:Atom),l1[q]?=some y->w'.cell? ⟨B,q,none⟩=some (y.ev ρ)∧w'.frozen? ⟨B,q,none⟩=false:=fun q y hy=>by
  have:=hx _ (zH Lw _ (mn (k:=0) (o:=0) hy))
  rw [Nat.zero_add] at this
  obtain ⟨g,hg,h1,h2⟩:=this
  rw [hg] at Ly
  have hgB:g=B:=Ly
  subst hgB
  exact ⟨h1,h2⟩
 match cs,hr1 with
 | [y],_=>
  have hg:=hG.grown
  have hfit:=nJ hx hrf
  have hpost:a.defers = []∧∃v,(results fn a.tmps).run P w' = .ok v w'∧(∃(u:Value) (l':List Value),Ending.returned v = .returned u∧Wr w w' (fun k=>k=B∨blk (.slice s0 n0 m0)=some k)∧l'.length=sz∧(∀(i:Nat) (u:Value),l'[i]?=some u->w'.cell? ⟨B,i,none⟩=some u∧w'.frozen? ⟨B,i,none⟩=false)∧bp Φ (fun _=>False) w' [res,cont] [u,.agg l'.toArray] ∧
    ∀b,blk (l'.headD undef)=some b->blk (.slice s0 n0 m0)=some b∨w.heap.size<=b∧b<w'.heap.size):=by
   refine ⟨hG.defers,y.ev ρ,?_,_,l1.map (Atom.ev ρ),rfl,⟨⟨hg.os.trans hgr.os.symm,hg.tape.trans hgr.tape.symm,hg.output.trans hgr.output.symm⟩,hpk,fun k hk hn=>hpb k hk (fun e=>hn (.inl e)) fun e=>hn (.inr e)⟩,by simp [hl1],fun q u hq=>?_,hfit,fun b ko=>?_⟩
   ·rw [pC]
    simp [Array.mapM_eq_mapM_toList,hres]
   ·rw [List.getElem?_map,Option.map_eq_some_iff] at hq
    obtain ⟨y,hy,rfl⟩:=hq
    exact hcell q y hy
   ·cases l1 with
    | nil=>simp [blk,undef] at ko
    | cons z ts=>
     have hz:blk (z.ev ρ)=some b:=ko
     unfold Lq at hnh
     simp only [Bool.or_eq_true] at hnh
     rcases hnh with (h | h) | h
     ·have e:=lm h hx w' (Off.refl _ _)
      rw [hpq] at e
      have e1:z.ev ρ = .slice s0 n0 m0:=e.1
      rw [e1] at hz
      exact .inl hz
     ·rw [Atom.di h] at hz
      simp [Atom.ev,blk] at hz
     ·split at h
      ·rename_i j hj
       have h1:=afZ hj hx b hz
       have h2:2<=j:=by simpa using h
       exact .inr ⟨hG.far.2 j b h2 h1,(hG.loose j b h1).2⟩
      ·cases h
  cases x with
  | normal=>exact hpost
  | ret=>exact hpost
  | exit id=>exact absurd rfl (hne id)
def gm (S:Nat->Prop) (_:World) (v:Value):Prop:=∀b,blk v=some b->S b
def FG (w:World) (S:Nat->Prop) (w1:World) (_:Value):Prop:=Kp w w1∧∀k,k<w.heap.size->¬S k->w1.heap[k]?=w.heap[k]?
def pE (Φ:Nat->World->Value->Prop) (L:Nat->Nat->Prop) (w:World):List (List Nat×List Nat)->List Out->List Value->Prop
 | [],[],[]=>True
 | a :: ag,o :: os,v :: vs=>((o.sh.is v∧∀q,q ∈ o.fs->∀w1,Off (fun k=>∃j,j ∉ a.1∧L j k) w w1->Φ q.2.2 w1 (bw q.1 q.2.1 v))∧(a.2 ≠ []->∀b,blk v=some b->∃j,j ∈ a.2∧L j b))∧pE Φ L w ag os vs
 | _,_,_=>False
def FK (Φ:Nat->World->Value->Prop) (P:Program) (f:FuncId) (ins:List Out) (ag:List (List Nat×List Nat)) (res:List Out) (S:Nat->Prop) (w:World):Prop:=∀(L:Nat->Nat->Prop) (W0:World) (vs:List Value),W0.grownBy w none->(∀j k,L j k->W0.heap.size<=k∧k<w.heap.size)->(∀i j k,L i k->L j k->i=j)->(∀j k,L j k->S k)->
 pE Φ L w ag ins vs->Calls P f vs.toArray w fun e w'=>∃u:Value,e = .returned u∧Wr w w' S∧bp Φ (fun _=>False) w' res [u]
def rI:List (List Nat×List Nat)->Nat->List Out->List It
 | a :: ag,c,o :: os=>(facts 0 c [o]).map (ug a.1) ++ ((if a.2.isEmpty then [] else match o.sh.comp 0 c with
  | .one x=>[nE a.2 x]
  | _=>[]) ++ rI ag (c+o.sh.len) os)
 | _,_,_=>[]
def LA (ag:List (List Nat×List Nat)) (ins:List Out) (pn:Nat):List It:=.fact (.one (.s 0 0)) pn :: (rC 0 0 0 ins ++ rI ag 0 ins)
def LB (P:Program) (fn:Func) (c:Code) (ins:List Out) (ag:List (List Nat×List Nat)) (pn:Nat) (res:List Out) (ss:List Step):Bool:=
 decide (ins.length<=fn.ntmps) && ins.all (fun o=>o.sh.good) &&
 match dj P fn.ntmps c (LA ag ins pn) 1 ss with
 | some (.exit _,_,_,_)=>false
 | some (_,st,_,_)=>(match fn.results.toList.mapM (jx P st) with
  | some [y]=>st.any (iV (.one (.s 0 0)) pn) && jy st [y] res
  | _=>false)
 | none=>false
def LD (P:Program) (fn:Func) (ins:List Out) (ag:List (List Nat×List Nat)) (pn:Nat) (res:List Out) (ss:List Step):Bool:=match fn.body with
 | some c=>LB P fn c ins ag pn res ss
 | none=>false
theorem LE {L:Nat->Nat->Prop}{w:World}{a0:Act}{Lc:List Value}:∀{ag:List (List Nat×List Nat)}{os:List Out}{vs:List Value}{c:Nat},pE Φ L w ag os vs->os.all (fun o=>o.sh.good)=true->(∀j u,(vs.flatMap cellsOf)[j]?=some u->Lc[c+j]?=some u)->
  ∀x,x ∈ rI ag c os->x.holds Φ (fun _=>False) { aO.put 0 Lc with o:=L } a0 w
 | [],[],[],_,_,_,_,x,hx=>by simp [rI] at hx
 | a :: ag,o :: os,v :: vs,c,h,hg,hl,x,hx=>by
  simp only [List.all_cons,Bool.and_eq_true] at hg
  have hv:∀j u,([v].flatMap cellsOf)[j]?=some u->Lc[c+j]?=some u:=fun j u hj=>hl j u (by
   simp only [List.flatMap_cons,List.flatMap_nil,List.append_nil] at hj ⊢
   rw [List.getElem?_append_left (List.getElem?_eq_some_iff.1 hj).1];exact hj)
  obtain ⟨e1,e2⟩:=eO (ρ:=aO) (k:=0) (l:=Lc) (c:=c) (us:=[v]) (os:=[o]) (X:=fun k=>∃j,j ∉ a.1∧L j k) (w:=w) (Φ:=Φ) ⟨h.1.1,trivial⟩ (by simp [hg.1]) hv
  simp only [fB,List.map_cons,List.map_nil,List.cons.injEq,and_true] at e1
  have hlen:(cellsOf v).length=o.sh.len:=(bK.ev (ρ:=aO) (k:=0) (c:=c) (l:=Lc) h.1.1.1 hg.1 (fun j u hj=>hv j u (by simpa using hj))).2
  simp only [rI] at hx
  rcases List.mem_append.1 hx with hx | hx
  ·obtain ⟨z,hz,rfl⟩:=List.mem_map.1 hx
   obtain ⟨y,p,rfl,hy⟩:=e2 z hz
   refine KM fun w1 hw1=>?_
   rw [C.bI]
   refine hy w1 (hw1.wide fun m hm=>?_)
   rcases hm with hm | ⟨q,hm⟩ | hm
   ·exact hm.elim
   ·simp [Env.put,aO] at hm
   ·exact hm
  rcases List.mem_append.1 hx with hx | hx
  ·split at hx
   ·cases hx
   ·rename_i hne
    split at hx
    ·rename_i y hy
     simp only [List.mem_singleton] at hx
     subst hx
     refine KN fun g hg'=>?_
     rw [bI] at hg'
     rw [hy] at e1
     have e3:y.ev (aO.put 0 Lc)=v:=e1
     rw [e3] at hg'
     exact h.1.2 (fun e=>hne (by rw [e];rfl)) g hg'
    ·cases hx
  ·refine LE h.2 hg.2 (fun j u hj=>?_) x hx
   rw [Nat.add_assoc,<- hlen]
   refine hl _ u ?_
   simp only [List.flatMap_cons]
   rw [List.getElem?_append_right (by omega),Nat.add_sub_cancel_left]
   exact hj
 | [],[],_ :: _,_,h,_,_,_,_=>h.elim
 | [],_ :: _,_,_,h,_,_,_,_=>h.elim
 | _ :: _,[],_,_,h,_,_,_,_=>h.elim
 | _ :: _,_ :: _,[],_,h,_,_,_,_=>h.elim
theorem pE.outs {L:Nat->Nat->Prop}{w:World}:∀{ag:List (List Nat×List Nat)}{os:List Out}{vs:List Value},pE Φ L w ag os vs->bp Φ (fun _=>False) w os vs
 | [],[],[],_=>trivial
 | _ :: _,_ :: _,_ :: _,h=>⟨⟨h.1.1.1,fun q hq w1 hw=>h.1.1.2 q hq w1 (hw.wide fun _ h=>h.elim)⟩,pE.outs h.2⟩
 | [],[],_ :: _,h=>h.elim
 | [],_ :: _,_,h=>h.elim
 | _ :: _,[],_,h=>h.elim
 | _ :: _,_ :: _,[],h=>h.elim
theorem Wz  (ins:List Out) (ag:List (List Nat×List Nat)) (res:List Out) (pn:Nat){S:Nat->Prop} (ss:List Step) (hpn:Φ pn=FG w S) (hf:P.funcs[f]?=some fn) (hrun:LD P fn ins ag pn res ss=true) (hs:∀t,t ∈ ss->bZ P Φ t):FK Φ P f ins ag res S w:=by
 intro L W0 vs hgr hL1 hL2 hL3 hst
 unfold LD at hrun
 split at hrun
 case h_2=>cases hrun
 rename_i co hb
 simp only [LB,Bool.and_eq_true,decide_eq_true_eq] at hrun
 obtain ⟨⟨hle,hgood⟩,hrun⟩:=hrun
 refine calls_of_wp hf hb ?_
 have hins:=hst.outs
 have hlen:=hins.length
 obtain ⟨e1,e2⟩:=eO (ρ:=aO) (k:=0) (l:=vs.flatMap cellsOf) (c:=0) hins hgood (fun j u hj=>by rw [Nat.zero_add];exact hj)
 have hstart:cB Φ (fun _=>False) { W0 with drawn:=0 } fn.ntmps (LA ag ins pn) { tmps:=vs.toArray ++ Array.replicate (fn.ntmps-vs.toArray.size) undef,defers:=[] } w:=by
  refine ⟨{ aO.put 0 (vs.flatMap cellsOf) with o:=L },⟨rfl,by simp;omega,oZ hgr,fun j k g h=>by simp [Env.put,aO] at h,fun k g h=>by simp [Env.put,aO] at h,fun k h=>h.elim,fun j k h=>hL1 j k h,fun i j k h=>by simp [Env.put,aO] at h,fun i j k h1 h2=>hL2 i j k h1 h2,⟨Nat.zero_le _,fun _ _ _ _=>Nat.zero_le _⟩⟩,fun x hx=>?_⟩
  rcases List.mem_cons.1 hx with rfl | hx
  ·intro w1 hw
   rw [hpn]
   refine ⟨hw.1,fun k hk h1=>hw.2 k hk fun h=>?_⟩
   rcases h with h | ⟨j,h⟩ | ⟨j,-,h⟩
   ·exact h
   ·simp [Env.put,aO] at h
   ·exact h1 (hL3 j k h)
  rcases List.mem_append.1 hx with hx | hx
  ·obtain ⟨m,y,rfl,hm⟩:=nK 0 hx
   simp only [Nat.zero_add,It.holds,SV.ev]
   rw [C.bI]
   have:vs[m]?=some (y.ev (aO.put 0 (vs.flatMap cellsOf))):=by have h:=congrArg (fun l:List Value=>l[m]?) e1;simp only [List.getElem?_map,hm,Option.map_some] at h;exact h.symm
   have hlt:=(List.getElem?_eq_some_iff.1 this).1
   rw [Array.getElem?_append_left (by simpa using hlt)]
   simpa using this
  ·exact LE hst hgood (fun j u hj=>by rw [Nat.zero_add];exact hj) x hx
 split at hrun
 case h_1=>cases hrun
 case h_3=>cases hrun
 rename_i x st k' r hne hr
 obtain ⟨_,hw⟩:=rG (X:=fun _=>False) (W:={ W0 with drawn:=0 }) co _ _ _ _ _ _ _ hr Φ hs
 refine hw _ (fun a w' hK=>?_) _ _ hstart
 split at hrun
 case h_2=>cases hrun
 rename_i y hcs
 simp only [Bool.and_eq_true] at hrun
 obtain ⟨hrp,hrf⟩:=hrun
 obtain ⟨ρ,hG,hx⟩:=hK
 have hres:=nH (P:=P) hx hcs
 have iA:=lm hrp hx w' (Off.refl _ _)
 rw [hpn] at iA
 have hg:=hG.grown
 have hpost:a.defers = []∧∃v,(results fn a.tmps).run P w' = .ok v w'∧(∃u:Value,Ending.returned v = .returned u∧Wr w w' S∧bp Φ (fun _=>False) w' res [u]):=by
  refine ⟨hG.defers,y.ev ρ,?_,_,rfl,⟨⟨hg.os.trans hgr.os.symm,hg.tape.trans hgr.tape.symm,hg.output.trans hgr.output.symm⟩,iA.1,iA.2⟩,nJ hx hrf⟩
  rw [pC]
  simp [Array.mapM_eq_mapM_toList,hres]
 cases x with
 | normal=>exact hpost
 | ret=>exact hpost
 | exit id=>exact absurd rfl (hne id)
end
end Go.Proofs.YtomamliepbhegaaGreat.Sym
