/- Rows of values of severa -/
import Derived.Test.YtbjfgffibepmkaaGreatPolL
namespace Go.Proofs.YtbjfgffibepmkaaGreat.Sym
open Go.RowKit
variable {w:World}{v:Value}
theorem set_mid:∀(v pre xs post:List Value) (o j:Nat),xs.length=v.length->pre.length=o+j->(v.zipIdx j).foldl (fun (cs:Array Value) (c:Value×Nat)=>cs.setIfInBounds (o+c.2) c.1) (pre ++ xs ++ post).toArray=(pre ++ v ++ post).toArray
 | [],pre,[],post,o,j,_,_=>by simp
 | y :: v,pre,[],post,o,j,h,_=>by simp at h
 | [],pre,x :: xs,post,o,j,h,_=>by simp at h
 | y :: v,pre,x :: xs,post,o,j,h,hp=>by
  simp only [List.zipIdx_cons,List.foldl_cons]
  have e:(pre ++ x :: xs ++ post).toArray.setIfInBounds (o+j) y=(pre ++ [y] ++ xs ++ post).toArray:=by
   rw [<- hp]
   simp [List.set_append_right]
  rw [e,set_mid v (pre ++ [y]) xs post o (j+1) (by simpa using h) (by simp [hp];omega)]
  simp
theorem Cd {sz:Nat}:∀(vs:List Value) (pre post:List Value) (k:Nat),pre.length=k*sz->(∀v,v ∈ vs->v.cells.size=sz)->post.length=vs.length*sz->Instr.fill (fun i=>some (i*sz,sz)) (pre ++ post).toArray ((List.range' k vs.length).zip vs)=some (pre ++ vs.flatMap fun v=>v.cells.toList).toArray
 | [],pre,post,k,_,_,hl=>by
  have:post = []:=List.eq_nil_of_length_eq_zero (by simpa using hl)
  subst this;rfl
 | v :: vs,pre,post,k,hk,hv,hl=>by
  have h1:=hv v (List.mem_cons_self ..)
  have hl':post.length=vs.length*sz+sz:=by rw [hl,List.length_cons,Nat.succ_mul]
  have e:List.range' k (v :: vs).length=k :: List.range' (k+1) vs.length:=by simp [List.range'_succ]
  rw [e,List.zip_cons_cons,Instr.fill]
  simp only []
  have hc:¬((decide (v.cells.size≠sz) || decide (k*sz+v.cells.size > (pre ++ post).toArray.size))=true):=by
   simp [h1,hk];omega
  rw [if_neg hc]
  have e2:(v.cells.zipIdx.foldl (fun cs (c,j)=>cs.setIfInBounds (k*sz+j) c) (pre ++ post).toArray)=(pre ++ v.cells.toList ++ post.drop sz).toArray:=by
   have h3:=set_mid v.cells.toList pre (post.take sz) (post.drop sz) (k*sz) 0 (by simp [h1];omega) (by omega)
   rw [List.append_assoc,List.take_append_drop] at h3
   rw [<- h3,<- Array.foldl_toList]
   simp
  have ih:=Cd vs (pre ++ v.cells.toList) (post.drop sz) (k+1) (by simp [hk,h1,Nat.succ_mul]) (fun u hu=>hv u (List.mem_cons_of_mem _ hu)) (by simp;omega)
  rw [e2,ih]
  simp
theorem Ce {sz:Nat}:∀{vs:List Value} (_:∀v,v ∈ vs->v.cells.size=sz) (i k:Nat) (hi:i<vs.length),k<sz->(vs.flatMap fun v=>v.cells.toList)[i*sz+k]?=vs[i].cells.toList[k]?
 | v :: vs,hv,0,k,_,hk=>by
  have h1:=hv v (List.mem_cons_self ..)
  simp only [List.flatMap_cons,Nat.zero_mul,Nat.zero_add,List.getElem_cons_zero]
  rw [List.getElem?_append_left (by simp [h1];exact hk)]
 | v :: vs,hv,i+1,k,hi,hk=>by
  have h1:=hv v (List.mem_cons_self ..)
  simp only [List.flatMap_cons,List.getElem_cons_succ]
  rw [List.getElem?_append_right (by simp [h1,Nat.succ_mul];omega)]
  have e:(i+1)*sz+k-v.cells.toList.length=i*sz+k:=by simp [h1,Nat.succ_mul];omega
  rw [e]
  exact Ce (fun u hu=>hv u (List.mem_cons_of_mem _ hu)) i k (by simpa using hi) hk
section
variable {P:Program}{Φ:PH}{x n sz:Nat}{F:PH}
theorem eP {J:List Nat}{T e:TypeId}{ps:List Nat} (hT:P.underlying T=some (.slice e)){zc:C} (hl:ps.length=n) (hF:∀i p,ps[i]?=some p->∀w v,Φ p w v->v.cells.size=sz∧F i w (.agg v.cells)) (hx:Φ x=Rw sz F n) (hz:dg P e=some sz:=by kernel_rfl) (hz0:0<sz:=by omega) (h0:zeroAt P e=some zc:=by kernel_rfl) (hn:0<n∧n<=1000:=by omega) (hsz:sz<=1000:=by omega) :
  aj Φ P ⟨0,.any :: ps.map Arg.fact,[oS x],.fresh J (cu T n)⟩:=fun X w ac o xs hX hm ha=>by
 unfold cu at hm
 split at hm
 case h_2=>cases hm
 rename_i t len parts ho
 split at hm
 case isFalse=>cases hm
 rename_i hc
 obtain ⟨rfl,rfl,hr⟩:=hc
 simp only [Option.some.injEq] at hm
 subst hm
 obtain ⟨hvl,hv⟩:=Cf ha.2
 generalize hvs:(parts.toList.map (·.2)).map ac.eval=vs at *
 have hone:∀v,v ∈ vs->v.cells.size=sz:=fun v hv'=>by
  obtain ⟨i,hi,rfl⟩:=List.mem_iff_getElem.1 hv'
  have hp:ps[i]?=some ps[i]:=List.getElem?_eq_getElem (by omega)
  exact (hF i _ hp w _ (hv i _ _ hp (List.getElem?_eq_getElem hi) w (Off.refl _ _))).1
 have hlen:vs.length=len:=by omega
 have hparts:(parts.map fun (q:Nat×Operand)=>(q.1,ac.eval q.2)).toList=(List.range' 0 vs.length).zip vs:=by
  have e3:(parts.map fun (q:Nat×Operand)=>(q.1,ac.eval q.2)).toList=parts.toList.map fun q=>(q.1,ac.eval q.2):=by simp
  rw [e3,Cg ac.eval hr,hvs,hlen,List.range_eq_range']
 have Ps:Instr.fill (fun i=>some (i*sz,sz)) ((Array.range (len*sz)).map fun j=>((zc.cells.map (Atom.ev cV)).toArray)[j % (zc.cells.map (Atom.ev cV)).toArray.size]!) ((List.range' 0 vs.length).zip vs)=some (vs.flatMap fun v=>v.cells.toList).toArray:=by
  generalize hA:((Array.range (len*sz)).map fun j=>((zc.cells.map (Atom.ev cV)).toArray)[j % (zc.cells.map (Atom.ev cV)).toArray.size]!)=A
  have hs:A.size=len*sz:=by rw [<- hA];simp
  have e:A=([] ++ A.toList).toArray:=by simp
  rw [e]
  exact Cd vs [] A.toList 0 (by simp) hone (by simp [hs,hlen])
 have hrun:(execOp ac.eval o).run P w = .ok (.value (.slice (some ⟨w.heap.size,0,none⟩) len len)) (w.alloc (.cells (vs.flatMap fun v=>v.cells.toList).toArray e)):=by
  have hle:len*sz<=1000*1000:=Nat.mul_le_mul hn.2 hsz
  have hpos:0<len*sz:=Nat.mul_pos hn.1 hz0
  have e5:¬(len*sz > 2 ^ 24):=by omega
  have h2:¬(sz=0):=by omega
  have h3:¬(len*sz=0):=by omega
  unfold execOp
  simp only [ho]
  simp only [Instr.buildSlice,Sem.run_bind,run_underlying hT,Result.andThen_ok,run_sizeOf hz]
  rw [Sem.run_ite,if_neg e5]
  simp only [if_neg h3,Sem.run_bind,uL h0 cV,Result.andThen_ok,jS,Sem.run_pure]
  rw [show (parts.map fun x=>match x with | (i,x)=>(i,ac.eval x))=parts.map fun (q:Nat×Operand)=>(q.1,ac.eval q.2) from rfl,hparts,Ps]
  simp [newRow]
 have hg:=World.grownBy_alloc w (.cells (vs.flatMap fun v=>v.cells.toList).toArray e) none
 refine ⟨_,_,hrun,hg,cP ⟨⟨_,_,_,rfl⟩,fun _ h=>by cases h⟩ hx fun w1 hw=>?_⟩
 ·refine ⟨_,_,rfl,Nat.le_refl _,fun i hi=>⟨_,_,rfl,(vs[i]'(by omega)).cells.toList,by simpa using hone _ (List.getElem_mem _),fun k u hk=>?_,?_⟩⟩
  ·have hk1:k<sz:=by
    have:=(List.getElem?_eq_some_iff.1 hk).1
    have h1:=hone (vs[i]'(by omega)) (List.getElem_mem _)
    simp only [Array.length_toList] at this;omega
   have hbk:=hw.2 w.heap.size (by simp) (fun h=>by have:=hX _ h;omega)
   rw [World.cell?_of_block hbk,World.cell?_alloc_new]
   rw [Nat.zero_add,List.getElem?_toArray,Ce hone i k (by omega) hk1]
   exact hk
  ·have hp:ps[i]?=some (ps[i]'(by omega)):=List.getElem?_eq_getElem (by omega)
   exact (hF i _ hp w1 _ (hv i _ _ hp (List.getElem?_eq_getElem (by omega)) w1 ((Off.grown hg).trans hw fun _ _ h=>h))).2
end
def uM (a b:Rat):Nat->Rat
 | 0=>a
 | _+1=>b
theorem af.cells4 {q:Rat}{k:Nat} (h:af w v q k):v.cells.size=4∧af w (.agg v.cells) q k:=by
 obtain ⟨l,rfl,hl,_⟩:=af.cells h
 exact ⟨by simpa [Value.cells] using hl,h⟩
section
variable {Φ:PH}{J:List Nat}{p q x k k1 k2:Nat}{a b:Rat}
theorem Pt (hp:∀w v,Φ p w v->af w v a k) (hx:Φ x=Rw 4 (Df (uM a 0) k) 1):aj Φ Tryz.prog ⟨0,[.any,.fact p],[oS x],.fresh J (cu 32 1)⟩:=
 eP (sz:=4) (ps:=[p]) (zc:=.agg [.nl,.cb false,.nl,.cb false]) Tryz.underlying32 rfl (fun i r h w v hv=>by
  match i,h with
  | 0,h=>
   obtain rfl:=Option.some.inj h
   exact af.cells4 (hp w v hv)) hx
end
theorem Rw.own' {sz n:Nat}{F:PH}{w1:World} (h:Rw sz F n w v) (hK:∀i w w1 v,Kp w w1->F i w v->F i w1 v) (k:Kp w w1) (hb:0<n->∀g,blk v=some g->w1.heap[g]?=w.heap[g]?):Rw sz F n w1 v:=by
 obtain ⟨p,c,rfl,hc,he⟩:=h
 refine ⟨p,c,rfl,hc,fun i hi=>?_⟩
 obtain ⟨b,off,rfl,l,h1,h2,h3⟩:=he i hi
 refine ⟨b,off,rfl,l,h1,fun j u hj=>?_,hK _ _ _ _ k h3⟩
 rw [World.cell?_of_block (hb (by omega) b rfl)];exact h2 j u hj
def YZ (b:Option Nat) (zz:Nat->Nat->Int) (ln:Nat->Nat) (k:Nat) (i:Nat) (w:World) (v:Value):Prop:=∃s,v = .agg #[s]∧Rw 2 (fun j w v=>aF w v (zz i j) k) (ln i) w s∧(0<ln i->∀g,blk s=some g->b≠some g)
def mI (e:TypeId) (zz:Nat->Nat->Int) (ln:Nat->Nat) (k n:Nat) (w:World) (v:Value):Prop:=aC 1 e (YZ (blk v) zz ln k) n w v
section
variable {e:TypeId}{zz:Nat->Nat->Int}{ln:Nat->Nat}{k n:Nat}{y:Value}{X:Nat->Prop}
theorem mI.rw (h:mI e zz ln k n w v):Rw 1 (gU zz ln k) n w v:=Rw.to (sz:=1) (aC.rw h) fun _ _ _ _ ⟨s,e,h,_⟩=>⟨s,e,h⟩
theorem mI.nil (e:TypeId) (zz:Nat->Nat->Int) (ln:Nat->Nat) (k:Nat) (w:World):mI e zz ln k 0 w (.slice none 0 0):=aC.nil _ _ _ _
theorem mI.is (h:mI e zz ln k n w v):(bW.one .s).is v:=by
 obtain ⟨p,c,rfl,_⟩:=h.rw
 exact ⟨⟨_,_,_,rfl⟩,fun _ h=>by cases h⟩
end
end Go.Proofs.YtbjfgffibepmkaaGreat.Sym
