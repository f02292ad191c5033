/- Rows of values of severa -/
import Derived.Test.YtomamliepbhegaaGreatPolL
namespace Go.Proofs.YtomamliepbhegaaGreat.Sym
open Go.RowKit
theorem set_mid:∀(v pre xs post:List Value) (o j:Nat),xs.length=v.length->pre.length=o+j->(v.zipIdx j).foldl (fun (cs:Array Value) (c:Value×Nat)=>cs.setIfInBounds (o+c.2) c.1) (pre ++ xs ++ post).toArray=(pre ++ v ++ post).toArray
 | [],pre,[],post,o,j,_,_=>by simp
 | y :: v,pre,[],post,o,j,h,_=>by simp at h
 | [],pre,x :: xs,post,o,j,h,_=>by simp at h
 | y :: v,pre,x :: xs,post,o,j,h,hp=>by
  simp only [List.zipIdx_cons,List.foldl_cons]
  have e:(pre ++ x :: xs ++ post).toArray.setIfInBounds (o+j) y=(pre ++ [y] ++ xs ++ post).toArray:=by
   rw [<- hp]
   simp [List.set_append_right]
  rw [e,set_mid v (pre ++ [y]) xs post o (j+1) (by simpa using h) (by simp [hp];omega)]
  simp
theorem Ib {sz:Nat}:∀(vs:List Value) (pre post:List Value) (k:Nat),pre.length=k*sz->(∀v,v ∈ vs->v.cells.size=sz)->post.length=vs.length*sz->Instr.fill (fun i=>some (i*sz,sz)) (pre ++ post).toArray ((List.range' k vs.length).zip vs)=some (pre ++ vs.flatMap fun v=>v.cells.toList).toArray
 | [],pre,post,k,_,_,hl=>by
  have:post = []:=List.eq_nil_of_length_eq_zero (by simpa using hl)
  subst this;rfl
 | v :: vs,pre,post,k,hk,hv,hl=>by
  have h1:=hv v (List.mem_cons_self ..)
  have hl':post.length=vs.length*sz+sz:=by rw [hl,List.length_cons,Nat.succ_mul]
  have e:List.range' k (v :: vs).length=k :: List.range' (k+1) vs.length:=by simp [List.range'_succ]
  rw [e,List.zip_cons_cons,Instr.fill]
  simp only []
  have hc:¬((decide (v.cells.size≠sz) || decide (k*sz+v.cells.size > (pre ++ post).toArray.size))=true):=by
   simp [h1,hk];omega
  rw [if_neg hc]
  have e2:(v.cells.zipIdx.foldl (fun cs (c,j)=>cs.setIfInBounds (k*sz+j) c) (pre ++ post).toArray)=(pre ++ v.cells.toList ++ post.drop sz).toArray:=by
   have h3:=set_mid v.cells.toList pre (post.take sz) (post.drop sz) (k*sz) 0 (by simp [h1];omega) (by omega)
   rw [List.append_assoc,List.take_append_drop] at h3
   rw [<- h3,<- Array.foldl_toList]
   simp
  have ih:=Ib vs (pre ++ v.cells.toList) (post.drop sz) (k+1) (by simp [hk,h1,Nat.succ_mul]) (fun u hu=>hv u (List.mem_cons_of_mem _ hu)) (by simp;omega)
  rw [e2,ih]
  simp
theorem Ic {sz:Nat}:∀{vs:List Value} (_:∀v,v ∈ vs->v.cells.size=sz) (i k:Nat) (hi:i<vs.length),k<sz->(vs.flatMap fun v=>v.cells.toList)[i*sz+k]?=vs[i].cells.toList[k]?
 | v :: vs,hv,0,k,_,hk=>by
  have h1:=hv v (List.mem_cons_self ..)
  simp only [List.flatMap_cons,Nat.zero_mul,Nat.zero_add,List.getElem_cons_zero]
  rw [List.getElem?_append_left (by simp [h1];exact hk)]
 | v :: vs,hv,i+1,k,hi,hk=>by
  have h1:=hv v (List.mem_cons_self ..)
  simp only [List.flatMap_cons,List.getElem_cons_succ]
  rw [List.getElem?_append_right (by simp [h1,Nat.succ_mul];omega)]
  have e:(i+1)*sz+k-v.cells.toList.length=i*sz+k:=by simp [h1,Nat.succ_mul];omega
  rw [e]
  exact Ic (fun u hu=>hv u (List.mem_cons_of_mem _ hu)) i k (by simpa using hi) hk
section
variable {P:Program}{Φ:PH}{x n sz:Nat}{F:PH}
theorem jF {J:List Nat}{T e:TypeId}{ps:List Nat} (hT:P.underlying T=some (.slice e)){zc:C} (hl:ps.length=n) (hF:∀i p,ps[i]?=some p->∀w v,Φ p w v->v.cells.size=sz∧F i w (.agg v.cells)) (hx:Φ x=Rw sz F n) (hz:ee P e=some sz:=by kernel_rfl) (hz0:0<sz:=by omega) (h0:zeroAt P e=some zc:=by kernel_rfl) (hn:0<n∧n<=1000:=by omega) (hsz:sz<=1000:=by omega) :
  aj Φ P ⟨0,.any :: ps.map Arg.fact,[oS x],.fresh J (dq T n)⟩:=fun X w ac o xs hX hm ha=>by
 unfold dq at hm
 split at hm
 case h_2=>cases hm
 rename_i t len parts ho
 split at hm
 case isFalse=>cases hm
 rename_i hc
 obtain ⟨rfl,rfl,hr⟩:=hc
 simp only [Option.some.injEq] at hm
 subst hm
 obtain ⟨hvl,hv⟩:=xX ha.2
 generalize hvs:(parts.toList.map (·.2)).map ac.eval=vs at *
 have hone:∀v,v ∈ vs->v.cells.size=sz:=fun v hv'=>by
  obtain ⟨i,hi,rfl⟩:=List.mem_iff_getElem.1 hv'
  have hp:ps[i]?=some ps[i]:=List.getElem?_eq_getElem (by omega)
  exact (hF i _ hp w _ (hv i _ _ hp (List.getElem?_eq_getElem hi) w (Off.refl _ _))).1
 have hlen:vs.length=len:=by omega
 have hparts:(parts.map fun (q:Nat×Operand)=>(q.1,ac.eval q.2)).toList=(List.range' 0 vs.length).zip vs:=by
  have e3:(parts.map fun (q:Nat×Operand)=>(q.1,ac.eval q.2)).toList=parts.toList.map fun q=>(q.1,ac.eval q.2):=by simp
  rw [e3,xY ac.eval hr,hvs,hlen,List.range_eq_range']
 have xZ:Instr.fill (fun i=>some (i*sz,sz)) ((Array.range (len*sz)).map fun j=>((zc.cells.map (Atom.ev aO)).toArray)[j % (zc.cells.map (Atom.ev aO)).toArray.size]!) ((List.range' 0 vs.length).zip vs)=some (vs.flatMap fun v=>v.cells.toList).toArray:=by
  generalize hA:((Array.range (len*sz)).map fun j=>((zc.cells.map (Atom.ev aO)).toArray)[j % (zc.cells.map (Atom.ev aO)).toArray.size]!)=A
  have hs:A.size=len*sz:=by rw [<- hA];simp
  have e:A=([] ++ A.toList).toArray:=by simp
  rw [e]
  exact Ib vs [] A.toList 0 (by simp) hone (by simp [hs,hlen])
 have hrun:(execOp ac.eval o).run P w = .ok (.value (.slice (some ⟨w.heap.size,0,none⟩) len len)) (w.alloc (.cells (vs.flatMap fun v=>v.cells.toList).toArray e)):=by
  have hle:len*sz<=1000*1000:=Nat.mul_le_mul hn.2 hsz
  have hpos:0<len*sz:=Nat.mul_pos hn.1 hz0
  have e5:¬(len*sz > 2 ^ 24):=by omega
  have h2:¬(sz=0):=by omega
  have h3:¬(len*sz=0):=by omega
  unfold execOp
  simp only [ho]
  simp only [Instr.buildSlice,Sem.run_bind,run_underlying hT,Result.andThen_ok,run_sizeOf hz]
  rw [Sem.run_ite,if_neg e5]
  simp only [if_neg h3,Sem.run_bind,tJ h0 aO,Result.andThen_ok,kY,Sem.run_pure]
  rw [show (parts.map fun x=>match x with | (i,x)=>(i,ac.eval x))=parts.map fun (q:Nat×Operand)=>(q.1,ac.eval q.2) from rfl,hparts,xZ]
  simp [newRow]
 have hg:=World.grownBy_alloc w (.cells (vs.flatMap fun v=>v.cells.toList).toArray e) none
 refine ⟨_,_,hrun,hg,cL ⟨⟨_,_,_,rfl⟩,fun _ h=>by cases h⟩ hx fun w1 hw=>?_⟩
 ·refine ⟨_,_,rfl,Nat.le_refl _,fun i hi=>⟨_,_,rfl,(vs[i]'(by omega)).cells.toList,by simpa using hone _ (List.getElem_mem _),fun k u hk=>?_,?_⟩⟩
  ·have hk1:k<sz:=by
    have:=(List.getElem?_eq_some_iff.1 hk).1
    have h1:=hone (vs[i]'(by omega)) (List.getElem_mem _)
    simp only [Array.length_toList] at this;omega
   have hbk:=hw.2 w.heap.size (by simp) (fun h=>by have:=hX _ h;omega)
   rw [World.cell?_of_block hbk,World.cell?_alloc_new]
   rw [Nat.zero_add,List.getElem?_toArray,Ic hone i k (by omega) hk1]
   exact hk
  ·have hp:ps[i]?=some (ps[i]'(by omega)):=List.getElem?_eq_getElem (by omega)
   exact (hF i _ hp w1 _ (hv i _ _ hp (List.getElem?_eq_getElem (by omega)) w1 ((Off.grown hg).trans hw fun _ _ h=>h))).2
end
theorem al.cells4 {w:World}{v:Value}{q:Rat}{k:Nat} (h:al w v q k):v.cells.size=4∧al w (.agg v.cells) q k:=by
 obtain ⟨l,rfl,hl,_⟩:=al.cells h
 exact ⟨by simpa [Value.cells] using hl,h⟩
section
variable {Φ:PH}{J:List Nat}{p q x k k1 k2:Nat}{a b:Rat}
end
end Go.Proofs.YtomamliepbhegaaGreat.Sym
