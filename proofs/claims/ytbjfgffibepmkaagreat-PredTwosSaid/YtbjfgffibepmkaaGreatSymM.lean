/- Functions that write int -/
import Derived.Test.YtbjfgffibepmkaaGreatSym
namespace Go.Proofs.YtbjfgffibepmkaaGreat.Sym
open Go.RowKit
section
variable {P:Program}{Φ:Nat->World->Value->Prop}{X:Nat->Prop}
def aan (st:List It):List C->Bool
 | [.one a]=>st.any fun z=>match z with
  | .lo _ b=>b.beq a
  | _=>false
 | _=>false
def FH (P:Program) (fn:Func) (c:Code) (ins:List Out) (ss:List Step) (res:List Out):Bool:=
 decide (ins.length<=fn.ntmps) && ins.all (fun o=>o.sh.good) &&
 match dw P fn.ntmps c (start ins) 1 ss with
 | some (.exit _,_,_,_)=>false
 | some (_,st,_,_)=>(match fn.results.toList.mapM (lG P st) with
  | some cs=>lH st cs res && (cs.length == 1) && aan st cs
  | none=>false)
 | none=>false
def FI (P:Program) (fn:Func) (ins:List Out) (ss:List Step) (res:List Out):Bool:=match fn.body with
 | some c=>FH P fn c ins ss res
 | none=>false
theorem aao {ins:List Out}{vs:List Value}{W:World}{n:Nat} (hX:∀k,X k->k<W.heap.size) (hins:ch Φ X W ins vs) (hle:ins.length<=n) (hgood:ins.all (fun o=>o.sh.good)=true):cZ Φ X { W with drawn:=0 } n (start ins) { tmps:=vs.toArray ++ Array.replicate (n-vs.toArray.size) undef,defers:=[] } W:=by
 have hlen:=hins.length
 obtain ⟨e1,e2⟩:=gu (ρ:=cV) (k:=0) (l:=vs.flatMap cellsOf) (c:=0) hins hgood (fun j u hj=>by rw [Nat.zero_add];exact hj)
 refine ⟨cV.put 0 (vs.flatMap cellsOf),⟨rfl,by simp;omega,EO (bt _ _),fun j k g h=>by simp [Env.put,cV] at h,fun k g h=>by simp [Env.put,cV] at h,hX,fun j k h=>h.elim,fun i j k h=>by simp [Env.put,cV] at h,fun i j k h=>h.elim,⟨Nat.zero_le _,fun j k _ h=>h.elim⟩⟩,fun x hx=>?_⟩
 rcases List.mem_append.1 hx with hx | hx
 ·obtain ⟨m,y,rfl,hm⟩:=wI 0 hx
  simp only [Nat.zero_add,It.holds,SV.ev]
  have:vs[m]?=some (y.ev (cV.put 0 (vs.flatMap cellsOf))):=by have h:=congrArg (fun l:List Value=>l[m]?) e1;simp only [List.getElem?_map,hm,Option.map_some] at h;exact h.symm
  have hlt:=(List.getElem?_eq_some_iff.1 this).1
  rw [Array.getElem?_append_left (by simpa using hlt)]
  simpa using this
 ·obtain ⟨y,p,rfl,hy⟩:=e2 x hx
  exact fun w1 hw=>hy w1 (hw.1 |> fun h1=>⟨h1,fun k hk hn=>hw.2 k hk (fun ho=>by
   rcases ho with ho | ⟨j,ho⟩ | ⟨j,-,ho⟩
   ·exact hn ho
   ·simp [Env.put,cV] at ho
   ·exact ho.elim)⟩)
theorem jf {s:Site}{fn:Func} (ins res:List Out) (ss:List Step) (hf:P.funcs[s.f]?=some fn) (hrun:FI P fn ins ss res=true) (hs:∀t,t ∈ ss->cg P Φ t)
  (hin:∀(X:Nat->Prop) (w:World) (vs:List Value),(∀k,X k->k<w.heap.size)->cQ Φ X w s.args vs->ch Φ X w ins vs)
  (hout:∀(X:Nat->Prop) (w:World) (us:List Value),ch Φ X w res us->ch Φ X w s.outs us):eY Φ P s:=by
 intro X W vs hX hargs
 unfold FI at hrun
 split at hrun
 case h_2=>cases hrun
 rename_i c hb
 simp only [FH,Bool.and_eq_true,decide_eq_true_eq] at hrun
 obtain ⟨⟨hle,hgood⟩,hrun⟩:=hrun
 refine calls_of_wp hf hb ?_
 have hstart:=aao (n:=fn.ntmps) hX (hin X W vs hX hargs) hle hgood
 split at hrun
 case h_1=>cases hrun
 case h_3=>cases hrun
 rename_i x st k' r hne hr
 obtain ⟨_,hw⟩:=FC (X:=X) (W:={ W with drawn:=0 }) c _ _ _ _ _ _ _ hr Φ hs
 refine hw _ (fun a w hK=>?_) _ _ hstart
 split at hrun
 case h_2=>cases hrun
 rename_i cs hcs
 simp only [Bool.and_eq_true,beq_iff_eq] at hrun
 obtain ⟨ρ,hG,hx⟩:=hK
 have hres:=wG (P:=P) hx hcs
 match cs,hrun with
 | [y],hrun=>
  have hpost:a.defers = []∧∃v,(results fn a.tmps).run P w = .ok v w∧(W.grownBy w none∧∃u:Value,Ending.returned v = .returned u∧ch Φ X w s.outs [u]∧∀g,blk u=some g->W.heap.size<=g∧g<w.heap.size):=by
   refine ⟨hG.defers,y.ev ρ,?_,EN hG.grown,_,rfl,hout X w _ (wH hx hrun.1.1),fun g hg=>?_⟩
   ·rw [Fs]
    simp [Array.mapM_eq_mapM_toList,hres]
   ·have h2:=hrun.2
    match y,h2 with
    | .one b,h2=>
     obtain ⟨z,hz,hb⟩:=List.any_eq_true.1 h2
     have hz':=hx z hz
     cases z with
     | lo j c=>
      have e:=Atom.dN hb
      subst e
      exact hG.loose j g (hz' g hg)
     | _=>cases hb
  cases x with
  | normal=>exact hpost
  | ret=>exact hpost
  | exit id=>exact absurd rfl (hne id)
def Pin (w:World) (v:Value) (w1:World) (_:Value):Prop:=Kp w w1∧∀k,k<w.heap.size->blk v≠some k->w1.heap[k]?=w.heap[k]?
theorem Pin.off {w w1:World}{v u:Value} (h:Off (fun k=>blk v=some k) w w1):Pin w v w1 u:=⟨h.1,fun k hk hb=>h.2 k hk hb⟩
end
end Go.Proofs.YtbjfgffibepmkaaGreat.Sym
