/- Functions that write into an argument's memory, and results in new memory: the symbolic walk. -/
import Derived.Test.YthmcngjhkmpneaaGreatSym
namespace Go.Proofs.YthmcngjhkmpneaaGreat.Sym
open Go.RowKit
section
variable {P:Program}{Φ:Nat->World->Value->Prop}{X:Nat->Prop}
def PM (st:List It):List C->Bool
 | [.one a]=>st.any fun z=>match z with
  | .lo _ b=>b.beq a
  | _=>false
 | _=>false
def zJ (P:Program) (fn:Func) (c:Code) (ins:List Out) (ss:List Step) (res:List Out):Bool:=
 decide (ins.length<=fn.ntmps) && ins.all (fun o=>o.sh.good) &&
 match cg P fn.ntmps c (start ins) 1 ss with
 | some (.exit _,_,_,_)=>false
 | some (_,st,_,_)=>(match fn.results.toList.mapM (ia P st) with
  | some cs=>ic st cs res && (cs.length == 1) && PM st cs
  | none=>false)
 | none=>false
def zK (P:Program) (fn:Func) (ins:List Out) (ss:List Step) (res:List Out):Bool:=match fn.body with
 | some c=>zJ P fn c ins ss res
 | none=>false
theorem PN {ins:List Out}{vs:List Value}{W:World}{n:Nat} (hX:∀k,X k->k<W.heap.size) (hins:bc Φ X W ins vs) (hle:ins.length<=n) (hgood:ins.all (fun o=>o.sh.good)=true):bB Φ X { W with drawn:=0 } n (start ins) { tmps:=vs.toArray ++ Array.replicate (n-vs.toArray.size) undef,defers:=[] } W:=by
 have hlen:=hins.length
 obtain ⟨e1,e2⟩:=dV (ρ:=a8) (k:=0) (l:=vs.flatMap cellsOf) (c:=0) hins hgood (fun j u hj=>by rw [Nat.zero_add];exact hj)
 refine ⟨a8.put 0 (vs.flatMap cellsOf),⟨rfl,by simp;omega,nG (aQ _ _),fun j k g h=>by simp [Env.put,a8] at h,fun k g h=>by simp [Env.put,a8] at h,hX,fun j k h=>h.elim,fun i j k h=>by simp [Env.put,a8] at h,fun i j k h=>h.elim,⟨Nat.zero_le _,fun j k _ h=>h.elim⟩⟩,fun x hx=>?_⟩
 rcases List.mem_append.1 hx with hx | hx
 ·obtain ⟨m,y,rfl,hm⟩:=lR 0 hx
  simp only [Nat.zero_add,It.holds,SV.ev]
  have:vs[m]?=some (y.ev (a8.put 0 (vs.flatMap cellsOf))):=by have h:=congrArg (fun l:List Value=>l[m]?) e1;simp only [List.getElem?_map,hm,Option.map_some] at h;exact h.symm
  have hlt:=(List.getElem?_eq_some_iff.1 this).1
  rw [Array.getElem?_append_left (by simpa using hlt)]
  simpa using this
 ·obtain ⟨y,p,rfl,hy⟩:=e2 x hx
  exact fun w1 hw=>hy w1 (hw.1 |> fun h1=>⟨h1,fun k hk hn=>hw.2 k hk (fun ho=>by
   rcases ho with ho | ⟨j,ho⟩ | ⟨j,-,ho⟩
   ·exact hn ho
   ·simp [Env.put,a8] at ho
   ·exact ho.elim)⟩)
theorem jV {s:Site}{fn:Func} (ins res:List Out) (ss:List Step) (hf:P.funcs[s.f]?=some fn) (hrun:zK P fn ins ss res=true) (hs:∀t,t ∈ ss->bt P Φ t)
  (hin:∀(X:Nat->Prop) (w:World) (vs:List Value),(∀k,X k->k<w.heap.size)->bF Φ X w s.args vs->bc Φ X w ins vs)
  (hout:∀(X:Nat->Prop) (w:World) (us:List Value),bc Φ X w res us->bc Φ X w s.outs us):er Φ P s:=by
 intro X W vs hX hargs
 unfold zK at hrun
 split at hrun
 case h_2=>cases hrun
 rename_i c hb
 simp only [zJ,Bool.and_eq_true,decide_eq_true_eq] at hrun
 obtain ⟨⟨hle,hgood⟩,hrun⟩:=hrun
 refine calls_of_wp hf hb ?_
 have hstart:=PN (n:=fn.ntmps) hX (hin X W vs hX hargs) hle hgood
 split at hrun
 case h_1=>cases hrun
 case h_3=>cases hrun
 rename_i x st k' r hne hr
 obtain ⟨_,hw⟩:=sx (X:=X) (W:={ W with drawn:=0 }) c _ _ _ _ _ _ _ hr Φ hs
 refine hw _ (fun a w hK=>?_) _ _ hstart
 split at hrun
 case h_2=>cases hrun
 rename_i cs hcs
 simp only [Bool.and_eq_true,beq_iff_eq] at hrun
 obtain ⟨ρ,hG,hx⟩:=hK
 have hres:=AN (P:=P) hx hcs
 match cs,hrun with
 | [y],hrun=>
  have hpost:a.defers = []∧∃v,(results fn a.tmps).run P w = .ok v w∧(W.grownBy w none∧∃u:Value,Ending.returned v = .returned u∧bc Φ X w s.outs [u]∧∀g,blk u=some g->W.heap.size<=g∧g<w.heap.size):=by
   refine ⟨hG.defers,y.ev ρ,?_,nF hG.grown,_,rfl,hout X w _ (AO hx hrun.1.1),fun g hg=>?_⟩
   ·rw [nZ]
    simp [Array.mapM_eq_mapM_toList,hres]
   ·have h2:=hrun.2
    match y,h2 with
    | .one b,h2=>
     obtain ⟨z,hz,hb⟩:=List.any_eq_true.1 h2
     have hz':=hx z hz
     cases z with
     | lo j c=>
      have e:=Atom.cF hb
      subst e
      exact hG.loose j g (hz' g hg)
     | _=>cases hb
  cases x with
  | normal=>exact hpost
  | ret=>exact hpost
  | exit id=>exact absurd rfl (hne id)
def Cs (Φ:Nat->World->Value->Prop) (P:Program) (f:FuncId) (ins:List Out) (p:Nat) (qs:List Nat) (v:Value) (w:World):Prop:=∀(X:Nat->Prop) (W0:World) (vs:List Value),(vs.flatMap cellsOf).getD 0 undef=v->W0.grownBy w none->(∀k,X k->k<W0.heap.size)->
 bc Φ (fun k=>X k∨blk v=some k) w ins vs->(∀g,blk v=some g->W0.heap.size<=g∧g<w.heap.size)->
 (∀w1,Off X w w1->Φ p w1 v)->Calls P f vs.toArray w fun e w'=>W0.grownBy w' none∧e = .returned (.tuple #[])∧∀q,q ∈ qs->∀w1,Off X w' w1->Φ q w1 v
def Pin (w:World) (v:Value) (w1:World) (_:Value):Prop:=Kp w w1∧∀k,k<w.heap.size->blk v≠some k->w1.heap[k]?=w.heap[k]?
theorem Pin.off {w w1:World}{v u:Value} (h:Off (fun k=>blk v=some k) w w1):Pin w v w1 u:=⟨h.1,fun k hk hb=>h.2 k hk hb⟩
def zL (P:Program) (fn:Func) (c:Code) (ins:List Out) (p:Nat) (qs:List Nat) (pe:Nat) (ss:List Step):Bool:=
 decide (ins.length<=fn.ntmps) && ins.all (fun o=>o.sh.good) && fn.results.isEmpty &&
 match cg P fn.ntmps c (start ins ++ [.held [1] (.one (.s 0 0)) p,.lo 1 (.s 0 0)]) 1 ss with
 | some (.exit _,_,_,_)=>false
 | some (_,st,_,_)=>(match dE st 0 with
  | some (.c (.one y))=>qs.all (fun q=>st.any (ib (.one y) q)) && st.any (ib (.one y) pe)
  | _=>false)
 | none=>false
def zM (P:Program) (fn:Func) (ins:List Out) (p:Nat) (qs:List Nat) (pe:Nat) (ss:List Step):Bool:=match fn.body with
 | some c=>zL P fn c ins p qs pe ss
 | none=>false
theorem Jf {f:FuncId}{fn:Func} (ins:List Out) (p:Nat) (qs:List Nat) (pe:Nat){s0:Option Addr}{n0 m0:Nat}{w:World} (ss:List Step) (hpe:Φ pe=fun _ u=>u = .slice s0 n0 m0) (hf:P.funcs[f]?=some fn) (hrun:zM P fn ins p qs pe ss=true) (hs:∀t,t ∈ ss->bt P Φ t):Cs Φ P f ins p qs (.slice s0 n0 m0) w:=by
 intro X W0 vs hv hgr hX hins hbl hp
 unfold zM at hrun
 split at hrun
 case h_2=>cases hrun
 rename_i co hb
 simp only [zL,Bool.and_eq_true,decide_eq_true_eq] at hrun
 obtain ⟨⟨⟨hle,hgood⟩,hres⟩,hrun⟩:=hrun
 refine calls_of_wp hf hb ?_
 have hlen:=hins.length
 obtain ⟨e1,e2⟩:=dV (ρ:=a8) (k:=0) (l:=vs.flatMap cellsOf) (c:=0) hins hgood (fun j u hj=>by rw [Nat.zero_add];exact hj)
 have PO:∀x:Atom,x.ev { a8.put 0 (vs.flatMap cellsOf) with o:=fun j k=>j=1∧blk (.slice s0 n0 m0)=some k }=x.ev (a8.put 0 (vs.flatMap cellsOf)):=fun x=>bM _ _ x
 have evC:∀x:C,x.ev { a8.put 0 (vs.flatMap cellsOf) with o:=fun j k=>j=1∧blk (.slice s0 n0 m0)=some k }=x.ev (a8.put 0 (vs.flatMap cellsOf)):=fun x=>C.bM _ _ x
 have hat:(Atom.s 0 0).ev (a8.put 0 (vs.flatMap cellsOf)) = .slice s0 n0 m0:=by
  simp only [Atom.ev,Env.put,if_true,hv,asS]
 have hstart:bB Φ X { W0 with drawn:=0 } fn.ntmps (start ins ++ [.held [1] (.one (.s 0 0)) p,.lo 1 (.s 0 0)]) { tmps:=vs.toArray ++ Array.replicate (fn.ntmps-vs.toArray.size) undef,defers:=[] } w:=by
  refine ⟨{ a8.put 0 (vs.flatMap cellsOf) with o:=fun j k=>j=1∧blk (.slice s0 n0 m0)=some k },⟨rfl,by simp;omega,nG hgr,fun j k g h=>by simp [Env.put,a8] at h,fun k g h=>by simp [Env.put,a8] at h,hX,fun j k h=>hbl k h.2,fun i j k h=>by simp [Env.put,a8] at h,fun i j k h1 h2=>h1.1.trans h2.1.symm,⟨Nat.zero_le _,fun _ _ _ _=>Nat.zero_le _⟩⟩,fun x hx=>?_⟩
  rcases List.mem_append.1 hx with hx | hx
  ·rcases List.mem_append.1 hx with hx | hx
   ·obtain ⟨m,y,rfl,hm⟩:=lR 0 hx
    simp only [Nat.zero_add,It.holds,SV.ev]
    rw [evC]
    have:vs[m]?=some (y.ev (a8.put 0 (vs.flatMap cellsOf))):=by have h:=congrArg (fun l:List Value=>l[m]?) e1;simp only [List.getElem?_map,hm,Option.map_some] at h;exact h.symm
    have hlt:=(List.getElem?_eq_some_iff.1 this).1
    rw [Array.getElem?_append_left (by simpa using hlt)]
    simpa using this
   ·obtain ⟨y,p,rfl,hy⟩:=e2 x hx
    refine fun w1 hw=>?_
    rw [evC]
    exact hy w1 (hw.1 |> fun h1=>⟨h1,fun k hk hn=>hw.2 k hk (fun ho=>by
     rcases ho with ho | ⟨j,ho⟩ | ⟨j,-,ho⟩
     ·exact hn (.inl ho)
     ·simp [Env.put,a8] at ho
     ·exact hn (.inr ho.2))⟩)
  ·simp only [List.mem_cons,List.not_mem_nil,or_false] at hx
   rcases hx with rfl | rfl
   ·refine fun w1 hw=>?_
    rw [evC]
    have e:(C.one (.s 0 0)).ev (a8.put 0 (vs.flatMap cellsOf)) = .slice s0 n0 m0:=hat
    rw [e]
    refine hp w1 ⟨hw.1,fun k hk hn=>hw.2 k hk (fun ho=>?_)⟩
    rcases ho with ho | ⟨j,ho⟩ | ⟨j,hj,ho⟩
    ·exact hn ho
    ·simp [Env.put,a8] at ho
    ·exact hj (by rw [ho.1];exact List.mem_cons_self ..)
   ·intro g hg
    rw [PO,hat] at hg
    exact ⟨rfl,hg⟩
 split at hrun
 case h_1=>cases hrun
 case h_3=>cases hrun
 rename_i x st k' r hne hr
 obtain ⟨_,hw⟩:=sx (X:=X) (W:={ W0 with drawn:=0 }) co _ _ _ _ _ _ _ hr Φ hs
 refine hw _ (fun a w' hK=>?_) _ _ hstart
 split at hrun
 case h_2=>cases hrun
 rename_i y hy
 simp only [Bool.and_eq_true] at hrun
 obtain ⟨ρ,hG,hx⟩:=hK
 have heq:(C.one y).ev ρ = .slice s0 n0 m0:=by
  have:=lQ hrun.2 hx w' (Off.refl _ _)
  rw [hpe] at this;exact this
 have hpost:a.defers = []∧∃v,(results fn a.tmps).run P w' = .ok v w'∧(W0.grownBy w' none∧Ending.returned v = .returned (.tuple #[])∧∀q,q ∈ qs->∀w1,Off X w' w1->Φ q w1 (.slice s0 n0 m0)):=by
  refine ⟨hG.defers,.tuple #[],?_,nF hG.grown,rfl,fun q hq w1 hw1=>?_⟩
  ·have h0:fn.results = #[]:=by simpa using hres
   rw [nZ,h0]
   simp
  ·have:=lQ (List.all_eq_true.1 hrun.1 q hq) hx w1 hw1
   rwa [heq] at this
 cases x with
 | normal=>exact hpost
 | ret=>exact hpost
 | exit id=>exact absurd rfl (hne id)
theorem Jl {Ψ:Nat->World->Value->Prop}{f:FuncId}{ins:List Out}{p q pn:Nat}{v:Value}{W0 w:World}{vs:List Value} (h:Cs Ψ P f ins p [q,pn] v w) (hpn:Ψ pn=Pin w v) (hv:(vs.flatMap cellsOf).getD 0 undef=v) (hg:W0.grownBy w none) (hin:bc Ψ (fun k=>blk v=some k) w ins vs) (hb:∀g,blk v=some g->W0.heap.size<=g∧g<w.heap.size) (hp:∀w1,Kp w w1->(∀k,k<w.heap.size->w1.heap[k]?=w.heap[k]?)->Ψ p w1 v) :
  Calls P f vs.toArray w fun e w'=>e = .returned (.tuple #[])∧w.grownBy w' (blk v)∧Kp w w'∧Ψ q w' v:=by
 refine (h (fun _=>False) W0 vs hv hg (fun _ h=>h.elim) ?_ hb (fun w1 hw=>hp w1 hw.1 fun k hk=>hw.2 k hk fun h=>h)).mono fun e w' ⟨h1,h2,h3⟩=>?_
 ·have e:(fun k=>False∨blk v=some k)=fun k=>blk v=some k:=by funext k;simp
  rw [e];exact hin
 ·have oe:=h3 pn (List.mem_cons_of_mem _ (List.mem_cons_self ..)) w' (Off.refl _ _)
  rw [hpn] at oe
  exact ⟨h2,⟨h1.os.trans hg.os.symm,h1.tape.trans hg.tape.symm,h1.output.trans hg.output.symm,oe.1.1,fun k hk hb=>oe.2 k hk fun e=>hb e.symm⟩,oe.1,h3 q (List.mem_cons_self ..) w' (Off.refl _ _)⟩
end
end Go.Proofs.YthmcngjhkmpneaaGreat.Sym
