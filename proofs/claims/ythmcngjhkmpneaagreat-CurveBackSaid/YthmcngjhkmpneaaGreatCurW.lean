/- curve.Rebase and the reference's Rebase answer one curve: its numbers. A curve that came in; layer 12's Cut and its example. -/
import Derived.Test.YthmcngjhkmpneaaGreatCurP
import Derived.Test.YthmcngjhkmpneaaGreatCurR
import Derived.Test.YthmcngjhkmpneaaGreatDivW
import Derived.Test.YthmcngjhkmpneaaGreatPolQ
import Derived.Test.YthmcngjhkmpneaaGreatRatL
import Derived.Deep.Strs
set_option maxRecDepth 100000
namespace Go.Proofs.YthmcngjhkmpneaaGreat.Sym
open Go.RowKit
theorem tZ {c c':Nat->Int}{T:Nat}{u d:Int} (h:∀i,i<T->c i=c' i):∀j,j<=T->gM c T u d j=gM c' T u d j
 | 0,_=>rfl
 | j+1,hj=>funext fun i=>by rw [gM,gM,tZ h j (by omega),h (T-1-j) (by omega)]
theorem mk_congr {f g:Nat->Int}{n:Nat} (h:∀i,i<n->f i=g i):mk n f=mk n g:=List.map_congr_left fun i hi=>h i (List.mem_range.1 hi)
def rbZ (z:Nat->Int) (n:Nat) (u d:Int) (kk i:Nat):Int:=an (mvL z n u d) i*d ^ (kk-(tl z n-1))
section
variable {z:Nat->Int}{n kk:Nat}{u d:Int}{L P:List Int}
theorem fE (hL:aP (mk n z)=L):L.length=tl z n:=by rw [<- hL,fe]
theorem kB (hL:aP (mk n z)=L) (i:Nat) (hi:i<tl z n):an L i=z i:=by
 have:=aV z n
 rw [<- hL,kf,eu,if_pos (by omega)]
theorem t4 (hd:d≠0) (hL:aP (mk n z)=L) (hk:tl z n-1<=kk) (i:Nat) (hi:i<tl z n):qB L u d i*((d ^ kk:Int):Rat)=((rbZ z n u d kk i:Int):Rat):=by
 have e:qB L u d i=wM z (tl z n) u d (tl z n) i:=by
  show Rat.divInt (gM (an L) L.length u d L.length i) (d ^ (L.length-1))=Rat.divInt (gM z (tl z n) u d (tl z n) i) (d ^ (tl z n-1))
  rw [fE hL,tZ (kB hL) _ (Nat.le_refl _)]
 have h1:=BU (c:=z) (T:=tl z n) (u:=u) hd i
 rw [tD rfl (by omega) hd i hi] at h1
 have h2:d ^ kk=d ^ (tl z n-1)*d ^ (kk-(tl z n-1)):=by rw [<- Int.pow_add];congr 1;omega
 rw [e,rbZ,h2,Rat.intCast_mul,Rat.intCast_mul,<- h1,<- Rat.mul_assoc]
 congr 2
 push_cast
 rfl
theorem mw (hd:d≠0) (h0:0<tl z n):rbZ z n u d kk (tl z n-1)≠0:=by
 refine Int.mul_ne_zero ?_ (Int.pow_ne_zero hd)
 rw [<- tD rfl h0 hd _ (by omega)]
 have:=ml (u:=u) h0 (gy z n h0) hd (tl z n-1)
 rwa [Nat.sub_add_cancel h0] at this
theorem kC (hd:d≠0) (hP:aP (mk (mvL z n u d).length fun i=>an (mvL z n u d) i*d ^ (kk-(tl z n-1)))=P):P.length=tl z n:=by
 rw [<- hP,fe,j7]
 exact pg fun h=>mw (kk:=kk) hd h
theorem my (_hd:d≠0) (hP:aP (mk (mvL z n u d).length fun i=>an (mvL z n u d) i*d ^ (kk-(tl z n-1)))=P) (i:Nat) (hi:i<tl z n):an P i=rbZ z n u d kk i:=by
 rw [<- hP,kf,eu,j7,if_pos hi];rfl
end
section
variable {x y:Nat->Int}{n m kk g:Nat}{u d:Int}{Lx Ly P Q:List Int}
theorem t5 (hd:0<d) (hk1:tl x n-1<=kk) (hk2:tl y m-1<=kk) (hLx:aP (mk n x)=Lx) (hLy:aP (mk m y)=Ly) (hP:aP (mk (mvL x n u d).length fun i=>an (mvL x n u d) i*d ^ (kk-(tl x n-1)))=P) (hQ:aP (mk (mvL y m u d).length fun i=>an (mvL y m u d) i*d ^ (kk-(tl y m-1)))=Q)
  (hg:ba (b7 (aA (an P) (an Q)) (aA P.length Q.length) (d ^ kk)) ((aL (aA (an P) (an Q)) (aA P.length Q.length) 2).length+1)=g) :
  ((dB Lx Ly u d:Nat):Int)*(g:Int)=d ^ kk∧(∀i,i<Lx.length->rbZ x n u d kk i=cuX (qB Lx u d) (dB Lx Ly u d) i*(g:Int))∧(∀i,i<Ly.length->rbZ y m u d kk i=cuX (qB Ly u d) (dB Lx Ly u d) i*(g:Int)):=by
 have hd':d≠0:=by omega
 have lx:=fE hLx
 have ly:=fE hLy
 have px:=kC hd' hP
 have py:=kC hd' hQ
 have h:=BZ (q:=aW Lx.length (qB Lx u d) (qB Ly u d)) (R:=dh Lx.length (rbZ x n u d kk) (rbZ y m u d kk)) (C:=d ^ kk) (n:=Lx.length+Ly.length) (Int.pow_pos hd) fun i hi=>by
  unfold aW dh
  split
  ·exact t4 hd' hLx hk1 i (by omega)
  ·exact t4 hd' hLy hk2 _ (by omega)
 have e:ba (dh (Lx.length+Ly.length) (dh Lx.length (rbZ x n u d kk) (rbZ y m u d kk)) fun _=>d ^ kk) (Lx.length+Ly.length+1)=g:=by
  rw [<- hg,ie,px,py,lx,ly]
  refine pc fun i hi=>?_
  unfold dh
  split
  ·split
   ·rw [ti (by omega),my hd' hP _ (by omega)]
   ·have:=tj (x:=an P) (y:=an Q) (nx:=tl x n) (ny:=tl y m) (d:=d ^ kk) (i:=i-tl x n) (by omega)
    rw [show tl x n+(i-tl x n)=i by omega] at this
    rw [this,my hd' hQ _ (by omega)]
  ·obtain rfl:i=tl x n+tl y m:=by omega
   have:=oJ (zz:=aA (an P) (an Q)) (ln:=aA (tl x n) (tl y m)) (d:=d ^ kk)
   rw [ie] at this
   exact this
 rw [e] at h
 refine ⟨h.1,fun i hi=>?_,fun i hi=>?_⟩
 ·have:=h.2 i (by omega)
  rwa [dh,if_pos hi,show cuX (aW Lx.length (qB Lx u d) (qB Ly u d)) (dB Lx Ly u d) i=cuX (qB Lx u d) (dB Lx Ly u d) i by unfold cuX aW;rw [if_pos hi]] at this
 ·have:=h.2 (Lx.length+i) (by omega)
  rwa [dh,if_neg (by omega),Nat.add_sub_cancel_left,show cuX (aW Lx.length (qB Lx u d) (qB Ly u d)) (dB Lx Ly u d) (Lx.length+i)=cuX (qB Ly u d) (dB Lx Ly u d) i by unfold cuX aW;rw [if_neg (by omega),Nat.add_sub_cancel_left]] at this
end
section
variable {z:Nat->Int}{n kk:Nat}{u d:Int}
theorem gB (hd:Bd d.natAbs 2):∀j,j<=6->Bd (d ^ j).natAbs 20:=fun j hj=>by
 rw [Int.natAbs_pow]
 exact (Bd.kg hd j).more (by omega)
theorem pm (h6:tl z n<=6) (hz:∀i,i<n->Bd (z i).natAbs 3) (hu:Bd u.natAbs 2) (hd:Bd d.natAbs 2) (j a:Nat) (hj:j<=tl z n) (ha:a<tl z n):Bd (mvS z n u d j a).natAbs 300:=by
 have hle:=aV z n
 have h1:=CD (u:=u) (fun i hi=>hz i (by omega)) hd hu j a ha
 have h2:j*(tl z n*(2+1))<=6*(6*(2+1)):=Nat.mul_le_mul (by omega) (Nat.mul_le_mul_right _ (by omega))
 exact h1.more (by omega)
theorem t6 (h6:tl z n<=6) (hz:∀i,i<n->Bd (z i).natAbs 3) (hu:Bd u.natAbs 2) (hd:Bd d.natAbs 2) (hk:kk<=6) (i:Nat) (hi:i<tl z n):Bd (rbZ z n u d kk i).natAbs 340:=by
 rw [rbZ,t7 hi,Int.natAbs_mul,Int.natAbs_mul]
 exact ((pm h6 hz hu hd _ i (Nat.le_refl _) hi).mul (gB hd i (by omega))).mul (gB hd _ (by omega))
end
structure ik (x y:Nat->Int) (n m:Nat) (u d:Int) (Lx Ly:List Int):Prop where
 n200:n<=200
 t8:m<=200
 hx:aP (mk n x)=Lx
 hy:aP (mk m y)=Ly
 x6:Lx.length<=6
 y6:Ly.length<=6
 bx:∀i,i<n->Bd (x i).natAbs 3
 eh:∀i,i<m->Bd (y i).natAbs 3
 dp:0<d
 bu:Bd u.natAbs 2
 bd:Bd d.natAbs 2
section
variable {x y:Nat->Int}{n m:Nat}{u d:Int}{Lx Ly:List Int}
theorem ik.all (h:ik x y n m u d Lx Ly):Bd (dB Lx Ly u d) 340∧(∀i,i<Lx.length->Bd (cuX (qB Lx u d) (dB Lx Ly u d) i).natAbs 340)∧(∀i,i<Ly.length->Bd (cuX (qB Ly u d) (dB Lx Ly u d) i).natAbs 340)∧(0<Lx.length->cuX (qB Lx u d) (dB Lx Ly u d) (Lx.length-1)≠0)∧(0<Ly.length->cuX (qB Ly u d) (dB Lx Ly u d) (Ly.length-1)≠0):=by
 have lx:=fE h.hx
 have ly:=fE h.hy
 have hx6:=h.x6
 have hy6:=h.y6
 have hd':d≠0:=by have:=h.dp;omega
 obtain ⟨h1,h2,h3⟩:=t5 (kk:=6) h.dp (by omega) (by omega) h.hx h.hy rfl rfl rfl
 generalize ba _ _=g at h1 h2 h3
 have hg:0<g:=by
  rcases Nat.eq_zero_or_pos g with e | e
  ·rw [e] at h1
   have:(0:Int)<d ^ 6:=Int.pow_pos h.dp
   omega
  ·exact e
 have hle:∀{a b:Int},a=b*(g:Int)->b.natAbs<=a.natAbs:=fun {a b} e=>by
  rw [e,Int.natAbs_mul,Int.natAbs_natCast]
  exact Nat.le_mul_of_pos_right _ hg
 refine ⟨?_,fun i hi=>?_,fun i hi=>?_,fun h0=>?_,fun h0=>?_⟩
 ·have:=hle h1.symm
  rw [Int.natAbs_natCast] at this
  exact ((gB h.bd 6 (by omega)).le this).more (by omega)
 ·exact (t6 (by omega) h.bx h.bu h.bd (Nat.le_refl 6) i (by omega)).le (hle (h2 i hi))
 ·exact (t6 (by omega) h.eh h.bu h.bd (Nat.le_refl 6) i (by omega)).le (hle (h3 i hi))
 ·intro e
  have h5:=h2 _ (show Lx.length-1<Lx.length by omega)
  rw [e,Int.zero_mul,lx] at h5
  exact mw hd' (by omega) h5
 ·intro e
  have h5:=h3 _ (show Ly.length-1<Ly.length by omega)
  rw [e,Int.zero_mul,ly] at h5
  exact mw hd' (by omega) h5
end
section
variable {Φ:PH}{p q r p0 p1 p2 n m k ks kt:Nat}{x y:Nat->Int}{t:Rat}{u d:Int}{Lx Ly X Y:List Int}
theorem ua (hp:∀w v,Φ p w v->Rw 2 (If x k) n w v) (hq:∀w v,Φ q w v->Rw 2 (If y k) m w v) (hr:∀w v,Φ r w v->bS w v t kt) (h0:Φ p0=Rw 2 (Nf (an X) 340) X.length) (h1:Φ p1=Rw 2 (Nf (an Y) 340) Y.length) (h2:Φ p2=Nw ((dB Lx Ly (-t).num (((-t).den:Nat):Int):Nat):Int) 340)
  (hk:k<=3) (hkt:kt<=900) (hC:ik x y n m (-t).num (((-t).den:Nat):Int) Lx Ly) (hX:mk Lx.length (cuX (qB Lx (-t).num (((-t).den:Nat):Int)) (dB Lx Ly (-t).num (((-t).den:Nat):Int)))=X) (hY:mk Ly.length (cuX (qB Ly (-t).num (((-t).den:Nat):Int)) (dB Lx Ly (-t).num (((-t).den:Nat):Int)))=Y) :
  ai Φ Tryz.prog ⟨30,[.fact p,.fact q,.fact r],[⟨.agg [.s,.s,.b,.s],[(0,1,p0),(1,1,p1),(2,2,p2)]⟩],false⟩:=by
 have lx:=fE hC.hx
 have ly:=fE hC.hy
 have hx6:=hC.x6
 have hy6:=hC.y6
 have hn:=hC.n200
 have hm:=hC.t8
 have hd':(((-t).den:Nat):Int)≠0:=by have:=hC.dp;omega
 obtain ⟨e1,e2,e3⟩:=t5 (kk:=max (tl x n-1) (tl y m-1)) (u:=(-t).num) hC.dp (by omega) (by omega) hC.hx hC.hy rfl rfl rfl
 obtain ⟨P,hP⟩:∃P,aP (mk (mvL x n (-t).num (((-t).den:Nat):Int)).length fun i=>an (mvL x n (-t).num (((-t).den:Nat):Int)) i*(((-t).den:Nat):Int) ^ (max (tl x n-1) (tl y m-1)-(tl x n-1)))=P:=⟨_,rfl⟩
 obtain ⟨Q,hQ⟩:∃Q,aP (mk (mvL y m (-t).num (((-t).den:Nat):Int)).length fun i=>an (mvL y m (-t).num (((-t).den:Nat):Int)) i*(((-t).den:Nat):Int) ^ (max (tl x n-1) (tl y m-1)-(tl y m-1)))=Q:=⟨_,rfl⟩
 rw [hP,hQ] at e1 e2 e3
 have hg0:=th (zz:=aA (an P) (an Q)) (ln:=aA P.length Q.length) (d:=(((-t).den:Nat):Int) ^ max (tl x n-1) (tl y m-1)) (Int.pow_ne_zero hd')
 have pl:=kC hd' hP
 have ql:=kC hd' hQ
 have dv:∀{z:Nat->Int}{l:Nat}{A L:List Int},aP (mk (mvL z l (-t).num (((-t).den:Nat):Int)).length fun i=>an (mvL z l (-t).num (((-t).den:Nat):Int)) i*(((-t).den:Nat):Int) ^ (max (tl x n-1) (tl y m-1)-(tl z l-1)))=A->aP (mk l z)=L->∀{g:Int},g≠0->∀{f:Nat->Int},(∀i,i<L.length->rbZ z l (-t).num (((-t).den:Nat):Int) (max (tl x n-1) (tl y m-1)) i=f i*g)->dvL (an A) A.length g=mk L.length f:=fun {z l A L} hA hL {g} hg {f} hf=>by
  have al:=kC hd' hA
  have ll:=fE hL
  have ht:tl (an A) A.length=L.length:=by
   rw [ll,al]
   refine pg fun h=>?_
   rw [my hd' hA _ (by omega)]
   exact mw hd' h
  rw [dvL,ht]
  refine mk_congr fun i hi=>?_
  rw [my hd' hA i (by omega),hf i hi,Int.mul_ediv_cancel _ hg]
 refine bi (BH (x:=x) (y:=y) (nx:=n) (ny:=m) (k:=k) (kt:=kt) (t:=t) (X:=X) (Y:=Y) (K1:=160) (K2:=300) (K3:=320) (kp:=20) (km:=340) hn hm (by omega) hkt (by omega) (by omega) (by omega) (by omega) (by omega) (by omega) (fun j hj=>gB hC.bd j (by omega)) (fun j a hj ha=>pm (by omega) hC.bx hC.bu hC.bd j a hj ha) rfl (gB hC.bd _ (by omega)) hP (fun j hj=>gB hC.bd j (by omega)) (fun j a hj ha=>pm (by omega) hC.eh hC.bu hC.bd j a hj ha) rfl (gB hC.bd _ (by omega)) hQ (gB hC.bd _ (by omega)) (by omega) (by omega) ((dv hP hC.hx hg0 e2).trans hX) ((dv hQ hC.hy hg0 e3).trans hY) (D:=((dB Lx Ly (-t).num (((-t).den:Nat):Int):Nat):Int)) ((congrArg (· / _) e1.symm).trans (Int.mul_ediv_cancel _ hg0))) ⟨hp,hq,hr,trivial⟩ ⟨⟨rfl,⟨rfl,rfl,fun _ _ h=>h0▸h⟩,⟨rfl,rfl,fun _ _ h=>h1▸h⟩,⟨rfl,rfl,fun _ _ h=>h2▸h⟩,trivial⟩,trivial⟩
end
open Go.RowKit Go.ChangeShapes Go.WideShapes Go.ChangeAt
theorem CF:Tryz.prog.cellsOf 28=1:=by kernel_rfl
theorem CG:Tryz.prog.cellsOf 53=4:=by kernel_rfl
section
variable {H:Type}{enc:TypeId×Value->H}{W:World}{base:Nat}{held:Bool}
theorem ub {x:Value}{fuel:Nat}{z:DataW H×List MemPlace} (hf:DataW.trod enc Tryz.prog W base (fun _=>true) held fuel 28 [x]=some z):∃(n:Nat) (a:Nat->Bool) (xs:Nat->List Nat),n<=9223372036854775807∧Rw 2 (fun i w v=>aG w v (a i) (xs i)) n W x:=by
 rcases Deep.open_slice Tryz.underlying28 hf with ⟨hcs,_⟩ | ⟨a,len,cap,m,n,D,Pl,hcs,_,hl,hm,hmm,_,hx⟩
 ·obtain rfl:x = .slice none 0 0:=by simpa using hcs
  exact ⟨0,fun _=>false,fun _=>[],by omega,none,0,rfl,Nat.le_refl _,fun i hi=>by omega⟩
 ·obtain rfl:x = .slice (some a) len cap:=by simpa using hcs
  simp only [if_true] at hmm
  have each:∀i,i<len->∃q:Bool×List Nat×List Value,q.2.2.length=2∧(∀(j:Nat) (u:Value),q.2.2[j]?=some u->W.cell? (a.add (i*2+j))=some u)∧aG W (.agg q.2.2.toArray) q.1 q.2.1:=fun i hi=>by
   obtain ⟨cs,h1,h2⟩:=hx i (by omega)
   rw [Tryz.cells24] at h1
   obtain ⟨_,hlen,hcell⟩:=World.cells?_some h1
   match cs,hlen with
   | [c0,c1],_=>
    obtain ⟨b,xs,rfl,h5,h6⟩:=mz h2
    refine ⟨(b,xs,[.bool b,c1]),rfl,fun j u hj=>?_,⟨_,rfl,h5,h6⟩⟩
    have hlt:=(List.getElem?_eq_some_iff.1 hj).1
    have e:=hcell j (by simpa using hlt)
    rw [Deep.add_add] at e
    rw [e]
    exact hj
  obtain ⟨q,hq⟩:=Deep.choose_lt each
  refine ⟨len,fun i=>(q i).1,fun i=>(q i).2.1,?_,some a,cap,rfl,hl,fun i hi=>?_⟩
  ·have:maxLen<=9223372036854775807:=by decide
   omega
  obtain ⟨h1,h2,h3⟩:=hq i hi
  obtain ⟨b,off,spot⟩:=a
  obtain ⟨g1,g2,-⟩:=hq 0 (by omega)
  have h0:=g2 0 ((q 0).2.2[0]'(by omega)) (List.getElem?_eq_getElem (by omega))
  have hspot:spot=none:=by simpa [Addr.add] using World.cell?_spot h0
  subst hspot
  refine ⟨b,off,rfl,(q i).2.2,h1,fun j u hj=>?_,h3⟩
  have:=h2 j u hj
  rw [Addr.add_lit] at this
  rw [Nat.add_assoc];exact this
theorem CH {base':Nat}{v:Value}{d:DataW H}{ps:List MemPlace} (h:DataW.Trod enc Tryz.prog W base (fun _=>true) held 53 v d ps) (hv:Value.okWide Tryz.prog W .any base' 53 v) :
  ∃(x y:Value) (b:Bool) (s:Value) (n m:Nat) (a a':Nat->Bool) (xs ys:Nat->List Nat) (zs:List Nat),v = .agg #[x,y,.bool b,s]∧n<=9223372036854775807∧Rw 2 (fun i w v=>aG w v (a i) (xs i)) n W x∧m<=9223372036854775807∧Rw 2 (fun i w v=>aG w v (a' i) (ys i)) m W y∧Sl W .u32 s zs∧All 4294967296 zs:=by
 obtain ⟨cs,rfl,hsz⟩:=okWide_struct Tryz.underlying53 hv
 obtain ⟨c0,c1,c2,c3,rfl⟩:=Joins.array4 (hsz.trans CG)
 obtain ⟨fuel,hf⟩:=h
 obtain ⟨y0,y1,y2,n,-,-,h0,h1,h2⟩:=Deep.trod_struct3 Tryz.underlying53 hf
 simp only [CF,Tryz.cells24,Value.cells,List.drop_zero,List.take_succ_cons,List.take_zero,List.drop_succ_cons] at h0 h1 h2
 obtain ⟨n,a,xs,hn,hx⟩:=ub h0
 obtain ⟨m,a',ys,hm,hy⟩:=ub h1
 obtain ⟨b,zs,rfl,h3,h4⟩:=mz h2
 exact ⟨c0,c1,b,c3,n,m,a,a',xs,ys,zs,rfl,hn,hx,hm,hy,h3,h4⟩
end
theorem uc {w:World}{v:Value}{a:Nat->Bool}{xs:Nat->List Nat}{z:Nat->Int}{m n:Nat} (h:Rw 2 (fun i w v=>KI w v (a i) (xs i) (z i) m) n w v):Rw 2 (If z m) n w v:=Rw.to h fun _ _ _ _ h=>h.2
theorem CI {Φ:PH}{p x x1 x2 i:Nat}{t:Rat} (hp:∀w v,Φ p w v->ah w v t i) (hx:Φ x=fun w v=>bk w v t i) (hx1:Φ x1=Nw t.num i) (hx2:Φ x2=Nw (t.den:Int) i) (hk:i<=200000):ai Φ Tryz.prog ⟨35,[.fact p],[⟨qS,[(0,0,x),(0,2,x1),(2,2,x2)]⟩],false⟩:=
 da fun _ _ _ h0=>(CJ (hp _ _ (get h0)) hk).mono fun _ _ h=>pp hx hx1 hx2 h
def CK (aa ab:Nat->Bool) (xsa xsb:Nat->List Nat) (dq dr:Nat->Int) (ma mb Na Nb K m:Nat) (a0:Bool) (xs0:List Nat) (z0:Int):List WP:=[fun w v=>Rw 2 (fun ι w v=>aG w v (aa ι) (xsa ι)) ma w v,fun w v=>Rw 2 (fun ι w v=>aG w v (ab ι) (xsb ι)) mb w v,fun w v=>aG w v a0 xs0,Nz K,Nz m,fun w v=>Rw 2 (fun ι w v=>KI w v (aa ι) ((fun ι=>(xsa ι).take m) ι) (dq ι) m) Na w v,fun w v=>Rw 2 (fun ι w v=>KI w v (ab ι) ((fun ι=>(xsb ι).take m) ι) (dr ι) m) Nb w v,fun w v=>KI w v a0 (xs0.take m) z0 m]
def CL:List Step:=[.base ⟨19,[.fact 0,.fact 3,.fact 4],[oS 5],false⟩,
   .base ⟨19,[.fact 1,.fact 3,.fact 4],[oS 6],false⟩,
   .base ⟨65,[.fact 2,.fact 4],[oI 7],false⟩]
def CM:List Out:=[⟨.agg [.s,.s,.b,.s],[(0,1,0),(1,1,1),(2,2,2)]⟩,oN 3,oN 4]
theorem CN {aa ab:Nat->Bool}{xsa xsb:Nat->List Nat}{dq dr:Nat->Int}{ma mb Na Nb K m:Nat}{a0:Bool}{xs0:List Nat}{z0:Int} (hK:K<=1000000) (hna:ma<=9223372036854775807) (hnb:mb<=9223372036854775807) (hza:∀j,sg (aa j) (Proofs.YthmcngjhkmpneaaGreat.val 4294967296 ((xsa j).take m))=dq j) (hzb:∀j,sg (ab j) (Proofs.YthmcngjhkmpneaaGreat.val 4294967296 ((xsb j).take m))=dr j) (il:min ma K=Na) (io:min mb K=Nb) (hz0:sg a0 (Proofs.YthmcngjhkmpneaaGreat.val 4294967296 (xs0.take m))=z0):ai (ph (CK aa ab xsa xsb dq dr ma mb Na Nb K m a0 xs0 z0)) Tryz.prog ⟨25,[.parts (.agg [.s,.s,.b,.s]) [(0,1,0),(1,1,1),(2,2,2)],.fact 3,.fact 4],[⟨.agg [.s,.s,.b,.s],[(0,1,5),(1,1,6),(2,2,7)]⟩],false⟩:=by
 skip
 exact bg CM [⟨.agg [.s,.s,.b,.s],[(0,1,5),(1,1,6),(2,2,7)]⟩] CL Tryz.func25 (by kernel_rfl)
  (lB (ud K m ad ad ad rfl (by omega) (by omega) hza il)
   (lB (ud K m ad ad ad rfl (by omega) (by omega) hzb io)
   (lB (pt m ad ad rfl hz0)
   aC)))
  (aK [.parts (.agg [.s,.s,.b,.s]) [(0,1,0),(1,1,1),(2,2,2)],.fact 3 (.one (.i)),.fact 4 (.one (.i))] ⟨trivial,fun _ _ h=>h▸dl _,fun _ _ h=>h▸dl _,trivial⟩) (fun _ _ _ h=>h)
section
variable {Φ:PH}{p0 p1 p2 q0 q1 q2:Nat}{aa ab:Nat->Bool}{xsa xsb:Nat->List Nat}{dq dr:Nat->Int}{ma mb Na Nb:Nat}{a0:Bool}{xs0:List Nat}{z0 Ki mi:Int}
theorem CO (K m:Nat) (hKi:(K:Int)=Ki) (hmi:(m:Int)=mi) (h0:∀w v,Φ p0 w v->Rw 2 (fun i w v=>aG w v (aa i) (xsa i)) ma w v) (h1:∀w v,Φ p1 w v->Rw 2 (fun i w v=>aG w v (ab i) (xsb i)) mb w v) (h2:∀w v,Φ p2 w v->aG w v a0 xs0) (g0:Φ q0=Rw 2 (If dq m) Na) (g1:Φ q1=Rw 2 (If dr m) Nb) (g2:Φ q2=Iw z0 m) (hK:K<=1000000) (hna:ma<=9223372036854775807) (hnb:mb<=9223372036854775807) (hza:∀j,sg (aa j) (Proofs.YthmcngjhkmpneaaGreat.val 4294967296 ((xsa j).take m))=dq j) (hzb:∀j,sg (ab j) (Proofs.YthmcngjhkmpneaaGreat.val 4294967296 ((xsb j).take m))=dr j) (il:min ma K=Na) (io:min mb K=Nb) (hz0:sg a0 (Proofs.YthmcngjhkmpneaaGreat.val 4294967296 (xs0.take m))=z0) :
  ai Φ Tryz.prog ⟨25,[.parts cS [(0,1,p0),(1,1,p1),(2,2,p2)],.lit (.ci .i64 Ki),.lit (.ci .i64 mi)],[⟨.agg [.s,.s,.b,.s],[(0,1,q0),(1,1,q1),(2,2,q2)]⟩],false⟩:=by
 subst hKi
 subst hmi
 exact bi (CN (K:=K) (m:=m) hK hna hnb hza hzb il io hz0) ⟨⟨rfl,⟨rfl,rfl,h0⟩,⟨rfl,rfl,h1⟩,⟨rfl,rfl,h2⟩,trivial⟩,fun _=>rfl,fun _=>rfl,trivial⟩ ⟨⟨rfl,⟨rfl,rfl,fun _ _ h=>by rw [g0];exact uc h⟩,⟨rfl,rfl,fun _ _ h=>by rw [g1];exact uc h⟩,⟨rfl,rfl,fun _ _ h=>by rw [g2];exact kI _ _ h⟩,trivial⟩,trivial⟩
end
theorem CP {Φ:PH}{x:Nat}{F:PH} (hx:Φ x=Rw 2 F 0) (X:Nat->Prop) (w:World) (v:Value) (h:(Arg.parts (.one (.lit .nl)) []).ok Φ X w v):(Arg.fact x).ok Φ X w v:=fun w1 _=>by
 rw [hx]
 have e:v = .slice none 0 0:=h.1.1
 rw [e]
 exact Rw.nil _ _ _
theorem cvW:ik (an [0,1]) (fun _=>0) 2 0 (-(aD 1 2)).num (((-(aD 1 2)).den:Nat):Int) [0,1] []:=by
 have e:(-(aD 1 2)).num = -1:=by decide +kernel
 have e':(((-(aD 1 2)).den:Nat):Int)=2:=by decide +kernel
 rw [e,e']
 exact ⟨by decide,by decide,by decide,rfl,by decide,by decide,fun i hi=>by
  match i,hi with
  | 0,_=>show _<_;decide
  | 1,_=>show _<_;decide,fun i hi=>absurd hi (by omega),by decide,show _<_ by decide,show _<_ by decide⟩
theorem CQ {Φ:PH}{p q r p0 p1 p2:Nat} (hp:∀w v,Φ p w v->Rw 2 (If (an [0,1]) 2) 2 w v) (hq:∀w v,Φ q w v->Rw 2 (If (fun _=>0) 1) 0 w v) (hr:∀w v,Φ r w v->bS w v (aD 1 2) 6) (h0:Φ p0=Rw 2 (Nf (an [-1,2]) 340) 2) (h1:Φ p1=Rw 2 (Nf (an []) 340) 0) (h2:Φ p2=Nw 2 340) :
  ai Φ Tryz.prog ⟨30,[.fact p,.fact q,.fact r],[⟨.agg [.s,.s,.b,.s],[(0,1,p0),(1,1,p1),(2,2,p2)]⟩],false⟩:=
 ua (k:=2) (kt:=6) hp (fun w v h=>Rw.to (hq w v h) fun i _ _ hi=>absurd hi (by omega)) hr (X:=[-1,2]) (Y:=[]) h0 h1 (h2.trans (by rw [show ((dB [0,1] [] (-(aD 1 2)).num (((-(aD 1 2)).den:Nat):Int):Nat):Int)=2 by decide +kernel])) (by omega) (by omega) cvW (by decide +kernel) (by decide +kernel)
theorem CR {Φ:PH}{p0 p1 p2 ma mb:Nat}{aa ab:Nat->Bool}{xa xb:Nat->List Nat}{a0:Bool}{x0:List Nat}{w:World}{x y s:Value}{b:Bool} (h0:Rw 2 (fun i w v=>aG w v (aa i) (xa i)) ma w x) (h1:Rw 2 (fun i w v=>aG w v (ab i) (xb i)) mb w y) (h2:aG w (.agg #[.bool b,s]) a0 x0) (e0:Φ p0=fun w v=>Rw 2 (fun i w v=>aG w v (aa i) (xa i)) ma w v) (e1:Φ p1=fun w v=>Rw 2 (fun i w v=>aG w v (ab i) (xb i)) mb w v) (e2:Φ p2=fun w v=>aG w v a0 x0) :
  (Arg.parts cS [(0,1,p0),(1,1,p1),(2,2,p2)]).ok Φ (fun _=>False) w (.agg #[x,y,.bool b,s]):=by
 refine ⟨⟨[x,y,.bool b,s],rfl,mf h0,mf h1,⟨_,rfl⟩,?_,trivial⟩,fun q hq w1 hw=>?_⟩
 ·obtain ⟨vs,e,hh⟩:=aG.is h2
  match vs,e,hh with
  | [v0,v1],e,hh=>
   obtain ⟨-,rfl⟩:Value.bool b=v0∧s=v1:=by simpa using e
   exact hh.2.1
 ·simp only [List.mem_cons,List.not_mem_nil,or_false] at hq
  rcases hq with rfl | rfl | rfl
  ·exact ue h0 e0 w1 hw
  ·exact ue h1 e1 w1 hw
  ·exact cW e2 (fun _ _ _ g h=>aG.kp h g) h2 w1 hw
theorem uf {a:Nat->Bool}{xs:Nat->List Nat}{z:Nat->Int}{n m:Nat}{w:World}{v:Value} (h:Rw 2 (fun i w v=>aG w v (a i) (xs i)) n w v) (hz:∀j,sg (a j) (Proofs.YthmcngjhkmpneaaGreat.val 4294967296 ((xs j).take m))=z j) (i:Nat) (hi:i<n):Bd (z i).natAbs m:=by
 obtain ⟨p,c,rfl,_,h1⟩:=h
 obtain ⟨_,_,_,l,_,_,s,_,_,h2⟩:=h1 i hi
 rw [<- hz i,cC]
 exact Bd.row _ h2 m
theorem CS {z u:Int}{k:Nat} (hk:1<=k) (hz:Bd z.natAbs k) (hu:Bd u.natAbs k):Bd (aD z u).num.natAbs k∧Bd (aD z u).den k:=by
 unfold aD
 split
 ·exact ⟨hz.le (o8 _ _),Bd.le (show Bd 1 k from Nat.one_lt_pow (by omega) (by omega)) (o9 (by omega))⟩
 ·rename_i h
  exact ⟨hz.le (o8 _ _),hu.le (o9 h)⟩
def CT  : List WP:=[Ni (0),Ni (1),fun w v=>Rw 1 (fun i _ v=>v = .agg #[.int .i64 (an [0,1] i)]) 2 w v,Rw 2 (Nf (an ([0,1])) 2) 2,Dw (aD 1 2) 6,fun w v=>ae w v ((aD 1 2).num) 6,fun w v=>ae w v ((aD 1 2).den:Int) 6,fun w v=>bk w v (aD 1 2) 6,Nw ((aD 1 2).num) 6,Nw ((aD 1 2).den:Int) 6,Rw 2 (Nf (fun _=>0) 1) 0,Rw 2 (Nf (an [-1,2]) 340) 2,Rw 2 (Nf (an []) 340) 0,Nw 2 340,Ni (-1),Ni (2),fun w v=>Rw 1 (fun i _ v=>v = .agg #[.int .i64 (an [-1,2] i)]) 2 w v,fun w v=>Rw 4 (fun ι w v=>ah w v ((((an ([-1,2])) ι:Int):Rat)) 6) 2 w v,Nz 0,fun w v=>ae w v (2:Int) 2]
def CU:List Step:=[.derive (.one (.ci .i64 0)) (.one (.lit (.ci .i64 0))) [] 0,
   .derive (.one (.ci .i64 1)) (.one (.lit (.ci .i64 1))) [] 1,
   .derive (.one (.nl)) (.one (.lit (.nl))) [] 10,
   .base ⟨0,[.any,.fact 0,.fact 1],[oS 2],.fresh [] (gv 22 2)⟩,
   .base ⟨23,[.fact 2],[oS 3],false⟩,
   .base ⟨38,[.lit (.ci .i64 1),.lit (.ci .i64 2)],[⟨.agg [.s,.b,.s,.b],[(0,0,4),(0,2,5),(2,2,6)]⟩],false⟩,
   .base ⟨35,[.fact 4],[⟨.agg [.b,.s,.b,.s],[(0,0,7),(0,2,8),(2,2,9)]⟩],false⟩,
   .base ⟨30,[.fact 3,.fact 10,.fact 7],[⟨.agg [.s,.s,.b,.s],[(0,1,11),(1,1,12),(2,2,13)]⟩],false⟩,
   .derive (.one (.ci .i64 (-1))) (.one (.lit (.ci .i64 (-1)))) [] 14,
   .derive (.one (.ci .i64 2)) (.one (.lit (.ci .i64 2))) [] 15,
   .base ⟨0,[.any,.fact 14,.fact 15],[oS 16],.fresh [] (gv 22 2)⟩,
   .base ⟨47,[.fact 16],[oS 17],false⟩,
   .base ⟨56,[.fact 17,.fact 11],oT,false⟩,
   bQ [.fact 12] [oN 18] (aI 28),
   bQ [.fact 18,.lit (.ci .i64 0)] oT (au .eql),
   .base ⟨64,[.lit (.ci .i64 2)],[oD 19],false⟩,
   .base ⟨84,[.fact 19,.fact 13],oT,false⟩]
def CV:List Out:=[]
theorem CW   : ai (ph (CT )) Tryz.prog ⟨31,[],oT,false⟩:=by
 skip
 exact bg CV oT CU Tryz.func31 (by kernel_rfl)
  (eD (mA rfl)
   (eD (mA rfl)
   (eD (CP (F:=Nf (fun _=>0) 1) rfl)
   (lB (jZ (ps:=[0,1]) (sz:=1) (n:=2) (F:=(fun i _ v=>v = .agg #[.int .i64 (an [0,1] i)])) (zc:=.one (.ci .i64 0)) Tryz.underlying22 (by kernel_rfl) (by omega) (by kernel_rfl) (by omega) (by omega) rfl (ug ad ad) rfl)
   (lB (CX (z:=an [0,1]) (n:=2) (zs:=[0,1]) ad rfl (by omega) (uh (by decide)) (by decide))
   (lB (pf (z:=1) (y:=2) rfl rfl rfl (by decide) (by decide) (by decide) (by decide) rfl)
   (lB (CI tS rfl rfl rfl (by omega))
   (lB (CQ (Rw.To 2 (Nf (an ([0,1])) 2) 2 (fun _ _ _ _ h=>ak.i h)) (Rw.To 2 (Nf (fun _=>0) 1) 0 (fun _ _ _ _ h=>ak.i h)) pQ rfl rfl rfl)
   (eD (mA rfl)
   (eD (mA rfl)
   (lB (jZ (ps:=[14,15]) (sz:=1) (n:=2) (F:=(fun i _ v=>v = .agg #[.int .i64 (an [-1,2] i)])) (zc:=.one (.ci .i64 0)) Tryz.underlying22 (by kernel_rfl) (by omega) (by kernel_rfl) (by omega) (by omega) rfl (ug ad ad) rfl)
   (lB (CY (z:=an [-1,2]) (n:=2) (L:=[-1,2]) ad rfl (by omega) (uh (by decide)) (by decide))
   (lB (CZ (z:=(an [-1,2])) (n:=2) (k:=340) (kq:=6) ad ad (by omega) (by omega) (by omega))
   (lB (a9 (F:=(Nf (an []) 340)) Tryz.underlying28 ad rfl)
   (lB (cn (op:=.eql) ad (cw (rfl) (by simp)))
   (lB (ko (z:=2) rfl (by decide) (by decide) rfl)
   (lB (ui dD nN (by omega) rfl rfl)
   aC)))))))))))))))))
  (aK [] trivial) bh
theorem C0 {Φ:PH}:ai Φ Tryz.prog ⟨31,[],oT,false⟩:=
 bi CW trivial ⟨⟨rfl,trivial⟩,trivial⟩
end Go.Proofs.YthmcngjhkmpneaaGreat.Sym
