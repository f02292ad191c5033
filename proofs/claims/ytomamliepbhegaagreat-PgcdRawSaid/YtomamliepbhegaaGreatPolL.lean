/- Rows of values of one ce -/
import Derived.Test.YtomamliepbhegaaGreatPolH
namespace Go.Proofs.YtomamliepbhegaaGreat.Sym
open Go.RowKit
variable {T:TypeId}{w:World}{v:Value}{a:Int}
def dq (T:TypeId) (n:Nat):Op->Option (List Operand)
 | .buildSlice t l parts=>if t=T∧l=n∧parts.toList.map (·.1)=List.range n then some (.const (.int .i64 0) :: parts.toList.map (·.2)) else none
 | _=>none
theorem Ix:∀(vs pre post:List Value),(∀v,v ∈ vs->v.cells = #[v])->post.length=vs.length->Instr.fill (fun i=>some (i*1,1)) (pre ++ post).toArray ((List.range' pre.length vs.length).zip vs)=some (pre ++ vs).toArray
 | [],pre,post,_,hl=>by
  have:post = []:=List.eq_nil_of_length_eq_zero hl
  subst this;rfl
 | v :: vs,pre,[],_,hl=>by simp at hl
 | v :: vs,pre,x :: post,hv,hl=>by
  have h1:=hv v (List.mem_cons_self ..)
  have ih:=Ix vs (pre ++ [v]) post (fun u hu=>hv u (List.mem_cons_of_mem _ hu)) (by simpa using hl)
  have e:List.range' pre.length (v :: vs).length=pre.length :: List.range' (pre ++ [v]).length vs.length:=by simp [List.range'_succ]
  rw [e,List.zip_cons_cons,Instr.fill]
  simp only [h1]
  have e2:((pre ++ x :: post).toArray).setIfInBounds (pre.length*1+0) v=(pre ++ [v] ++ post).toArray:=by
   simp [List.set_append_right]
  rw [if_neg (by simp)]
  have e3:(#[v].zipIdx.foldl (fun cs (c,j)=>cs.setIfInBounds (pre.length*1+j) c) (pre ++ x :: post).toArray)=(pre ++ [v] ++ post).toArray:=by
   rw [<- e2];rfl
  rw [e3,ih]
  simp
theorem xY {α β γ:Type} (f:β->γ):∀{l:List (α×β)}{r:List α},l.map (·.1)=r->l.map (fun q=>(q.1,f q.2))=r.zip ((l.map (·.2)).map f)
 | [],r,h=>by subst h;rfl
 | (a,b) :: l,r,h=>by
  subst h
  simp only [List.map_cons,List.zip_cons_cons]
  rw [xY f (l:=l) rfl]
section
variable {P:Program}{Φ:PH}{x j n:Nat}{F:PH}
theorem xX {X:Nat->Prop}{w:World}:∀{ps:List Nat}{vs:List Value},cH Φ X w (ps.map Arg.fact) vs->vs.length=ps.length∧∀(i p:Nat) (v:Value),ps[i]?=some p->vs[i]?=some v->∀w1,Off X w w1->Φ p w1 v
 | [],[],_=>⟨rfl,fun i p v h=>by simp at h⟩
 | p :: ps,v :: vs,h=>by
  obtain ⟨h1,h2⟩:=xX h.2
  refine ⟨by simp [h1],fun i q u hq hu=>?_⟩
  cases i with
  | zero=>
   simp only [List.getElem?_cons_zero,Option.some.injEq] at hq hu
   subst hq hu;exact h.1
  | succ i=>exact h2 i q u (by simpa using hq) (by simpa using hu)
 | [],_ :: _,h=>h.elim
 | _ :: _,[],h=>h.elim
theorem aan {e:TypeId}{ps:List Nat} (hT:P.underlying T=some (.slice e)){zc:C} (_hzc:zc.cells.length=1) (hl:ps.length=n) (hF:∀i p,ps[i]?=some p->∀w v,Φ p w v->v.cells = #[v]∧F i w (.agg #[v])) (hx:Φ x=Rw 1 F n) (hz:ee P e=some 1:=by kernel_rfl) (h0:zeroAt P e=some zc:=by kernel_rfl) (hn:0<n∧n<=1000:=by omega) :
  aj Φ P ⟨0,.any :: ps.map Arg.fact,[oS x],.loose [] j 0 (dq T n)⟩:=fun X L w ac o xs hX hL hLX hm ha hb _=>by
 unfold dq at hm
 split at hm
 case h_2=>cases hm
 rename_i t len parts ho
 split at hm
 case isFalse=>cases hm
 rename_i hc
 obtain ⟨rfl,rfl,hr⟩:=hc
 simp only [Option.some.injEq] at hm
 subst hm
 obtain ⟨hvl,hv⟩:=xX ha.2
 generalize hvs:(parts.toList.map (·.2)).map ac.eval=vs at *
 have hone:∀v,v ∈ vs->v.cells = #[v]:=fun v hv'=>by
  obtain ⟨i,hi,rfl⟩:=List.mem_iff_getElem.1 hv'
  have hp:ps[i]?=some ps[i]:=List.getElem?_eq_getElem (by omega)
  exact (hF i _ hp w _ (hv i _ _ hp (List.getElem?_eq_getElem hi) w (Off.refl _ _))).1
 have hlen:vs.length=len:=by omega
 have hparts:(parts.map fun (q:Nat×Operand)=>(q.1,ac.eval q.2)).toList=(List.range' 0 vs.length).zip vs:=by
  have e3:(parts.map fun (q:Nat×Operand)=>(q.1,ac.eval q.2)).toList=parts.toList.map fun q=>(q.1,ac.eval q.2):=by simp
  rw [e3,xY ac.eval hr,hvs,hlen,List.range_eq_range']
 have xZ:Instr.fill (fun i=>some (i*1,1)) ((Array.range (len*1)).map fun j=>((zc.cells.map (Atom.ev aO)).toArray)[j % (zc.cells.map (Atom.ev aO)).toArray.size]!) ((List.range' 0 vs.length).zip vs)=some vs.toArray:=by
  generalize hA:((Array.range (len*1)).map fun j=>((zc.cells.map (Atom.ev aO)).toArray)[j % (zc.cells.map (Atom.ev aO)).toArray.size]!)=A
  have hs:A.size=len:=by rw [<- hA];simp
  have e:A=([] ++ A.toList).toArray:=by simp
  rw [e]
  exact Ix vs [] A.toList hone (by simp [hs,hlen])
 have hrun:(execOp ac.eval o).run P w = .ok (.value (.slice (some ⟨w.heap.size,0,none⟩) len len)) (w.alloc (.cells vs.toArray e)):=by
  have e5:¬(len*1 > 2 ^ 24):=by omega
  have h2:¬(len*1=0):=by omega
  unfold execOp
  simp only [ho]
  simp only [Instr.buildSlice,Sem.run_bind,run_underlying hT,Result.andThen_ok,run_sizeOf hz]
  rw [Sem.run_ite,if_neg e5]
  simp only [if_neg h2,Sem.run_bind,tJ h0 aO,Result.andThen_ok,kY,Sem.run_pure]
  rw [show (parts.map fun x=>match x with | (i,x)=>(i,ac.eval x))=parts.map fun (q:Nat×Operand)=>(q.1,ac.eval q.2) from rfl,hparts,xZ]
  simp [newRow]
 have hg:=World.grownBy_alloc w (.cells vs.toArray e) none
 refine ⟨_,_,none,hrun,hg,fun _ h=>(by cases h),Kp.of hg,fun m q v _ h4 h5=>⟨cell_grown hg h4,gU hg h4 h5⟩,fun m hm=>?_,cL ⟨⟨_,_,_,rfl⟩,fun _ h=>by cases h⟩ hx fun w1 hw=>?_⟩
 ·simp only [blk,Option.some.injEq] at hm
  subst hm
  exact ⟨by simp,.inr (Nat.le_refl _)⟩
 ·refine ⟨_,_,rfl,Nat.le_refl _,fun i hi=>⟨_,_,rfl,[vs[i]'(by omega)],rfl,fun k u hk=>?_,?_⟩⟩
  ·cases k with
   | succ k=>simp at hk
   | zero=>
    simp only [List.getElem?_cons_zero,Option.some.injEq] at hk
    subst hk
    have hbk:=hw.2 w.heap.size (by simp) (fun h=>by have:=hX _ h;omega)
    rw [World.cell?_of_block hbk,World.cell?_alloc_new]
    simp
  ·have hp:ps[i]?=some (ps[i]'(by omega)):=List.getElem?_eq_getElem (by omega)
   exact (hF i _ hp w1 _ (hv i _ _ hp (List.getElem?_eq_getElem (by omega)) w1 ((Off.grown hg).trans hw fun _ _ h=>h))).2
end
theorem aao {F:WP}{X:Nat->Prop} (A:∀w1,Off X w w1->Ptr 1 F w1 v) (hF:∀w u,F w (.agg #[u])->∃p n c,u = .slice p n c):∃b o u,v = .pointer (some ⟨b,o,none⟩)∧¬X b∧w.cell? ⟨b,o,none⟩=some u:=by
 obtain ⟨b,o,rfl,l,h1,h2,h3⟩:=A w (Off.refl _ _)
 obtain ⟨u,rfl⟩:∃u,l = [u]:=by
  match l,h1 with
  | [u],_=>exact ⟨u,rfl⟩
 have hc:=h2 0 u rfl
 rw [Nat.add_zero] at hc
 obtain ⟨p,n,c,rfl⟩:=hF w u h3
 refine ⟨b,o,_,rfl,fun hX=>?_,hc⟩
 have hg:w.grownBy (w.setCells b o [.bool false]) (some b):=jV b _ _ _
 have hgr:w.grownBy (w.setCell ⟨b,o,none⟩ (.bool false)) (some b):=hg
 have hoff:Off X w (w.setCell ⟨b,o,none⟩ (.bool false)):=by
  refine ⟨⟨hgr.size,fun a k n _ ha=>?_⟩,fun k hk hn=>hgr.block k hk fun e=>?_⟩
  ·rw [World.cell?_setCell_other _ _ _ _ (fun e=>by rw [<- e,hc] at ha;cases ha)]
   exact ha
  ·obtain rfl:k=b:=Option.some.inj e
   exact hn hX
 obtain ⟨b',o',e,l',h1',h2',h3'⟩:=A _ hoff
 simp only [Value.pointer.injEq,Option.some.injEq,Addr.mk.injEq] at e
 obtain ⟨rfl,rfl,_⟩:=e
 obtain ⟨u',rfl⟩:∃u,l' = [u]:=by
  match l',h1' with
  | [u],_=>exact ⟨u,rfl⟩
 have hc':=h2' 0 u' rfl
 rw [Nat.add_zero,World.cell?_setCell_same _ _ _ hc] at hc'
 obtain ⟨_,_,_,e⟩:=hF _ u' h3'
 rw [e] at hc'
 cases hc'
section
variable {P:Program}{Φ:PH}{p x:Nat}
theorem nV {G:WP} (hp:∀w v,Φ p w v->Ptr 1 (fun w u=>∃s,u = .agg #[s]∧G w s) w v) (hG:∀w s,G w s->∃p n c,s = .slice p n c) (hx:Φ x=G) (hT:ia P T=some false:=by kernel_rfl):aj Φ P ⟨0,[.fact p],[oS x],.quiet (aI T)⟩:=fun X w ac o xs _ hm ha=>by
 unfold aI at hm
 split at hm
 case h_2=>cases hm
 rename_i t y ho
 split at hm
 case isFalse=>cases hm
 rename_i ht
 subst ht
 simp only [Option.some.injEq] at hm
 subst hm
 have A:∀w1,Off X w w1->Ptr 1 (fun w u=>∃s,u = .agg #[s]∧G w s) w1 (ac.eval y):=fun w1 hw=>hp _ _ (ha.1 w1 hw)
 obtain ⟨b,off,u,hv,hX,hc⟩:=aao A (fun w u ⟨s,e,hs⟩=>by
  obtain rfl:u=s:=by simpa using e
  exact hG w u hs)
 have key:∀w1,Off X w w1->G w1 u:=fun w1 hw=>by
  obtain ⟨b',o',e,l',h1',h2',s,h3',h4⟩:=A w1 hw
  rw [hv] at e
  simp only [Value.pointer.injEq,Option.some.injEq,Addr.mk.injEq] at e
  obtain ⟨rfl,rfl,_⟩:=e
  obtain rfl:l' = [s]:=by simpa using h3'
  have hc':=h2' 0 s rfl
  rw [Nat.add_zero,World.cell?_of_block (hw.2 b (World.block_lt_of_cell? _ _ hc) hX),hc] at hc'
  obtain rfl:=Option.some.inj hc'
  exact h4
 obtain ⟨p',n',c',rfl⟩:=hG _ _ (key w (Off.refl _ _))
 refine ⟨_,w,?_,bh w none,cL ⟨⟨_,_,_,rfl⟩,fun _ h=>by cases h⟩ hx key⟩
 unfold execOp
 simp [ho,hv,Instr.loadAt,Instr.sureAddr,loadVar,ib hT,hc]
end
def bS (zz:Nat->Nat->Int) (ln:Nat->Nat) (k:Nat) (i:Nat) (w:World) (v:Value):Prop:=∃s,v = .agg #[s]∧Rw 2 (fun j w v=>aE w v (zz i j) k) (ln i) w s
def fI {α:Type} (a b c:α):Nat->α
 | 0=>a
 | 1=>b
 | _=>c
section
variable {Φ:PH}{p p0 p1 p2 x j k n0 n1 n2:Nat}{z0 z1 z2:Nat->Int}
theorem gZ {n:Nat}{z:Nat->Int} (h:Rw 2 (If z k) n w v):v.cells = #[v]:=by
 obtain ⟨p,c,rfl,_⟩:=h;rfl
theorem tD  (hp:∀w v,Φ p w v->v = .int .i64 a) (hx:Φ x=fun w v=>Rw 1 (fun i _ v=>v = .agg #[.int .i64 ((fun _=>a) i)]) 1 w v):aj Φ Tryz.prog ⟨0,[.any,.fact p],[oS x],.loose [] j 0 (dq 22 1)⟩:=
 aan (ps:=[p]) (zc:=.one (.ci .i64 0)) Tryz.underlying22 rfl rfl (fun i q h w v hv=>by
  match i,h with
  | 0,h=>
   obtain rfl:=Option.some.inj h
   obtain rfl:=hp w v hv
   exact ⟨rfl,rfl⟩
  | i+1,h=>simp at h) hx
theorem gE  (hx:Φ x=Ni a) (X:Nat->Prop) (w:World) (v:Value) (h:(Arg.parts (.one (.lit (.ci .i64 a))) []).ok Φ X w v):(Arg.fact x).ok Φ X w v:=fun w1 _=>by
 rw [hx]
 exact h.1.1
end
end Go.Proofs.YtomamliepbhegaaGreat.Sym
