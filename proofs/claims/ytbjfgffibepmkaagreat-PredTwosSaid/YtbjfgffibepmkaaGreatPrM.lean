/- What the form of a resul -/
import Derived.Test.YtbjfgffibepmkaaGreatCurZ
import Derived.Test.YtbjfgffibepmkaaGreatDtP
namespace Go.Proofs.YtbjfgffibepmkaaGreat.Sym
open Go.RowKit
variable {D d:Int}{x y:Nat->Int}{m n:Nat}{X Y:List Int}
theorem vm {q r:Nat->Rat}:∀{n:Nat},(∀i,i<n->q i=r i)->dnL q n=dnL r n
 | 0,_=>rfl
 | n+1,h=>by rw [dnL,dnL,vm fun i hi=>h i (by omega),h n (by omega)]
theorem vn {q r:Nat->Rat}{n:Nat}:∀m,dnL (bc n q r) (n+m)=Nat.lcm (dnL q n) (dnL r m)
 | 0=>by
  rw [show dnL r 0=1 from rfl,Nat.lcm_one_right]
  exact vm fun i hi=>if_pos hi
 | m+1=>by
  show Nat.lcm (dnL (bc n q r) (n+m)) (bc n q r (n+m)).den=Nat.lcm (dnL q n) (Nat.lcm (dnL r m) (r m).den)
  rw [vn m,Nat.lcm_assoc,bc,if_neg (by omega),Nat.add_sub_cancel_left]
theorem Dt {q:Nat->Rat}{t:Nat}:∀{n:Nat},t<=n->(∀i,t<=i->i<n->(q i).den=1)->dnL q n=dnL q t
 | 0,h,_=>by
  obtain rfl:t=0:=by omega
  rfl
 | n+1,h,h1=>by
  rcases Nat.lt_or_ge n t with h2 | h2
  ·obtain rfl:t=n+1:=by omega
   rfl
  ·rw [dnL,Dt h2 fun i a b=>h1 i a (by omega),h1 n h2 (by omega),Nat.lcm_one_right]
def aE (e:Int) (z:Nat->Int) (i:Nat):Rat:=((z i:Int):Rat)*aW 1 e
def di (e:Int) (x y:Nat->Int) (n m:Nat):Nat:=dnL (bc n (aE e x) (aE e y)) (n+m)
def ff (e:Int) (D:Nat) (z:Nat->Int) (n:Nat):List Int:=mk (tl z n) (cuX (aE e z) D)
def ceE (d:Int):Int:=if d=0 then 1 else d
theorem qZ (d:Int):ceE d≠0:=by unfold ceE;split <;> omega
theorem Du {e:Int} (he:e≠0):aW 1 e*((e:Int):Rat)=1:=by
 rw [iR he,Rat.divInt_eq_div,Rat.div_mul_cancel (fun h=>he (by exact_mod_cast h))];rfl
section
variable {e s c:Int}{Lx Ly:List Int}
theorem SF (hX:an (mk n x)=Lx) (hY:an (mk m y)=Ly):di e (ae Lx) (ae Ly) Lx.length Ly.length=di e x y n m:=by
 have one:∀{z:Nat->Int}{l:Nat}{L:List Int},an (mk l z)=L->dnL (aE e (ae L)) L.length=dnL (aE e z) l:=fun {z l L} h=>by
  have hl:=iB h
  rw [Dt (q:=aE e z) (t:=tl z l) (bi z l) fun i h1 h2=>?_]
  ·rw [hl]
   exact vm fun i hi=>by rw [aE,aE,nz h i hi]
  ·rw [aE,iG z l i h1 h2,show (((0:Int):Int):Rat)=0 from rfl,Rat.zero_mul];rfl
 rw [di,di,vn,vn,one hX,one hY]
theorem Dx {D:Nat} (hX:an (mk n x)=Lx):mk Lx.length (cuX (aE e (ae Lx)) D)=ff e D x n:=by
 rw [ff,iB hX]
 exact mk_congr fun i hi=>by unfold cuX aE;rw [nz hX i hi]
theorem Dy (he:e≠0) (hs:s=1∨s = -1) (hC:0<s*e) :
  ((di e x y n m:Nat):Int)*((bp (bZ (aA x y) (aA n m) e) ((aU (aA x y) (aA n m) 2).length+1):Nat):Int)=s*e∧(∀i,i<n->s*x i=cuX (aE e x) (di e x y n m) i*((bp (bZ (aA x y) (aA n m) e) ((aU (aA x y) (aA n m) 2).length+1):Nat):Int))∧(∀i,i<m->s*y i=cuX (aE e y) (di e x y n m) i*((bp (bZ (aA x y) (aA n m) e) ((aU (aA x y) (aA n m) 2).length+1):Nat):Int)):=by
 have hq:∀a:Int,((a:Int):Rat)*aW 1 e*(((s*e:Int):Int):Rat)=(((s*a:Int):Int):Rat):=fun a=>by
  have:=Du he
  rw [Rat.intCast_mul,Rat.intCast_mul]
  generalize aW 1 e=u at *
  grind
 have h:=ym (q:=bc n (aE e x) (aE e y)) (R:=dd n (fun i=>s*x i) (fun i=>s*y i)) (C:=s*e) (n:=n+m) hC fun i hi=>by
  unfold bc dd aE
  split
  ·exact hq _
  ·exact hq _
 have hg:bp (dd (n+m) (dd n (fun i=>s*x i) (fun i=>s*y i)) fun _=>s*e) (n+m+1)=bp (bZ (aA x y) (aA n m) e) ((aU (aA x y) (aA n m) 2).length+1):=by
  have h1:∀i,i<n+m+1->dd (n+m) (dd n (fun i=>s*x i) (fun i=>s*y i)) (fun _=>s*e) i=bZ (aA x y) (aA n m) e i*s:=fun i hi=>by
   unfold dd
   split
   ·split
    ·rw [sG,Int.mul_comm]
    ·have:=sH (x:=x) (y:=y) (nx:=n) (ny:=m) (d:=e) (i:=i-n)
     rw [show n+(i-n)=i by omega] at this
     rw [this,Int.mul_comm]
   ·obtain rfl:i=n+m:=by omega
    have:=nj (zz:=aA x y) (ln:=aA n m) (d:=e)
    rw [jh] at this
    rw [<- this,Int.mul_comm]
  rw [jh,pQ h1,sN]
  rcases hs with rfl | rfl
  ·exact Nat.mul_one _
  ·exact Nat.mul_one _
 rw [hg] at h
 refine ⟨h.1,fun i hi=>?_,fun i hi=>?_⟩
 ·have:=h.2 i (by omega)
  rwa [dd,if_pos hi,show cuX (bc n (aE e x) (aE e y)) (dnL (bc n (aE e x) (aE e y)) (n+m)) i=cuX (aE e x) (di e x y n m) i by unfold cuX bc di;rw [if_pos hi];rfl] at this
 ·have:=h.2 (n+i) (by omega)
  rwa [dd,if_neg (by omega),Nat.add_sub_cancel_left,show cuX (bc n (aE e x) (aE e y)) (dnL (bc n (aE e x) (aE e y)) (n+m)) (n+i)=cuX (aE e y) (di e x y n m) i by unfold cuX di;rw [show bc n (aE e x) (aE e y) (n+i)=aE e y i by rw [bc,if_neg (by omega),Nat.add_sub_cancel_left]]] at this
theorem Dz (he:e≠0) (hs:s=1∨s = -1) (hc:s*((bp (bZ (aA x y) (aA n m) e) ((aU (aA x y) (aA n m) 2).length+1):Nat):Int)=c) (hC:0<s*e:=by omega) :
  c≠0∧dvL x n c=ff e (di e x y n m) x n∧dvL y m c=ff e (di e x y n m) y m∧e / c=((di e x y n m:Nat):Int):=by
 have h:=Dy (n:=n) (m:=m) (x:=x) (y:=y) he hs hC
 have h0:=pK (zz:=aA x y) (ln:=aA n m) he
 generalize ((bp (bZ (aA x y) (aA n m) e) ((aU (aA x y) (aA n m) 2).length+1):Nat):Int)=g at h h0 hc
 have hc0:c≠0:=by rcases hs with rfl | rfl <;> omega
 have mv:∀{a b:Int},s*a=b*g->a / c=b:=fun {a b} h=>by
  have:a=b*c:=by
   rcases hs with rfl | rfl
   ·rw [<- hc,Int.one_mul,<- h,Int.one_mul]
   ·rw [<- hc,Int.neg_one_mul,Int.mul_neg,<- h];omega
  rw [this,Int.mul_ediv_cancel _ hc0]
 exact ⟨hc0,mk_congr fun i hi=>mv (h.2.1 i (Nat.lt_of_lt_of_le hi (bi _ _))),mk_congr fun i hi=>mv (h.2.2 i (Nat.lt_of_lt_of_le hi (bi _ _))),mv h.1.symm⟩
theorem SG (he:e≠0):∃s:Int,(s=1∨s = -1)∧0<s*e:=by
 rcases Int.lt_or_gt_of_ne he with h | h
 ·exact ⟨-1,.inr rfl,by omega⟩
 ·exact ⟨1,.inl rfl,by omega⟩
end
structure fX (x y:Nat->Int) (n m:Nat) (d:Int) (X Y:List Int) (D:Int):Prop where
 hX:ff (ceE d) (di (ceE d) x y n m) x n=X
 hY:ff (ceE d) (di (ceE d) x y n m) y m=Y
 hD:((di (ceE d) x y n m:Nat):Int)=D
theorem fX.pos  (h:fX x y n m d X Y D):0<D:=by
 have:0<di (ceE d) x y n m:=lU _ _
 rw [<- h.hD];omega
theorem fX.ok {c k:Nat} (h:fX x y n m d X Y D) (hx:∀i,i<n->Bd (x i).natAbs k) (hy:∀i,i<m->Bd (y i).natAbs k) (hd:Bd d.natAbs k) (hk:1<=k) (hn:n<=c) (hm:m<=c):EOk c k X∧EOk c k Y∧EOk 1 k [D]:=by
 obtain ⟨s,hs,hC⟩:=SG (qZ d)
 have hl:=Dy (n:=n) (m:=m) (x:=x) (y:=y) (qZ d) hs hC
 have h0:=pK (zz:=aA x y) (ln:=aA n m) (qZ d)
 have hp:=h.pos
 have hde:Bd (ceE d).natAbs k:=by
  unfold ceE
  split
  ·exact gF hk
  ·exact hd
 generalize bp (bZ (aA x y) (aA n m) (ceE d)) ((aU (aA x y) (aA n m) 2).length+1)=g at hl h0
 have hg:0<g:=by omega
 have hsn:∀a:Int,(s*a).natAbs=a.natAbs:=fun a=>by
  rw [Int.natAbs_mul]
  rcases hs with rfl | rfl
  ·exact Nat.one_mul _
  ·exact Nat.one_mul _
 have le:∀{a b:Int},s*a=b*(g:Int)->b.natAbs<=a.natAbs:=fun {a b} e=>by
  rw [<- hsn a,e,Int.natAbs_mul,Int.natAbs_natCast]
  exact Nat.le_mul_of_pos_right _ hg
 have one:∀{z:Nat->Int}{l:Nat},l<=c->(∀i,i<l->Bd (z i).natAbs k)->(∀i,i<l->s*z i=cuX (aE (ceE d) z) (di (ceE d) x y n m) i*(g:Int))->EOk c k (ff (ceE d) (di (ceE d) x y n m) z l):=fun {z l} hlc hb hz=>by
  refine ⟨?_,fun h0=>?_,fun i=>?_⟩
  ·rw [ff,dC];exact Nat.le_trans (bi _ _) hlc
  ·rw [ff,dC] at h0 ⊢
   have ht:=bi z l
   rw [cM,if_pos (by omega)]
   intro e
   have h1:=hz (tl z l-1) (by omega)
   rw [e,Int.zero_mul] at h1
   have h2:=gE z l h0
   rcases Int.mul_eq_zero.1 h1 with h3 | h3
   ·rcases hs with rfl | rfl <;> omega
   ·exact h2 h3
  ·rw [ff,cM]
   split
   ·next hi=>
    have ht:=bi z l
    exact (hb i (by omega)).le (le (hz i (by omega)))
   ·exact Nat.pow_pos (by omega)
 refine ⟨h.hX▸one hn hx hl.2.1,h.hY▸one hm hy hl.2.2,Nat.le_refl _,fun _=>?_,fun i=>?_⟩
 ·show D≠0
  omega
 ·match i with
  | 0=>exact hde.le (le (h.hD▸hl.1).symm)
  | i+1=>rw [eT (h:=(by simp))];exact Nat.pow_pos (by omega)
theorem DA:∀(p:Nat){f g:Nat->Int},(∀i,1<=i->g i=0)->conv f g p=f p*g 0
 | 0,_,_,_=>rfl
 | p+1,f,g,h=>by
  rw [conv,DA p h,h (p+1) (by omega),Int.mul_zero,Int.zero_add]
theorem rb {P:List Int}{y:Int}:an (mk P.length fun i=>ae P i*y)=ah P [y]:=by
 refine nJ (gX _) (nG _ _ _ _) fun i=>?_
 rw [fM,cM,ah,Cy,DA i (fun j hj=>jF (show [y].length<=j from hj)),Qt]
 split
 ·rfl
 ·rw [eT,Int.zero_mul]
end Go.Proofs.YtbjfgffibepmkaaGreat.Sym
