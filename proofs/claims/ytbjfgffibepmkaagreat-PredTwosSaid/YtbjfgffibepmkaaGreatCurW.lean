/- Layer 6's example -/
import Derived.Test.YtbjfgffibepmkaaGreatDivE
import Derived.Test.YtbjfgffibepmkaaGreatCurR
import Derived.Deep.Strs
set_option maxRecDepth 100000
namespace Go.Proofs.YtbjfgffibepmkaaGreat.Sym
open Go.RowKit
variable {m n:Nat}{z:Nat->Int}{w:World}{v:Value}{a:Nat->Bool}{xs:Nat->List Nat}
theorem qh {L:List Int} (h:∀x,x ∈ L->-9223372036854775808<=x∧x<=9223372036854775807) (i:Nat) : -9223372036854775808<=ae L i∧ae L i<=9223372036854775807:=by
 unfold ae
 rw [List.getD_eq_getElem?_getD]
 cases hi:L[i]? with
 | none=>simp
 | some x=>exact h x (List.mem_of_getElem? hi)
section
variable {Φ:PH}{a b c:Nat}{x y z:Int}
theorem rj (h:∀w v,Φ a w v->v = .int .i64 x):∀(i p:Nat),[a][i]?=some p->∀w v,Φ p w v->v.cells.size=1∧(fun i _ v=>v = .agg #[.int .i64 (ae [x] i)]:PH) i w (.agg v.cells)
 | 0,p,hp,w,v,hv=>by
  simp only [List.getElem?_cons_zero,Option.some.injEq] at hp
  subst hp
  rw [h w v hv];exact ⟨rfl,rfl⟩
 | i+1,p,hp,_,_,_=>by simp at hp
end
section
variable {Φ:PH}{p q x k kq:Nat}
end
theorem yq {c c':Nat->Int}{T:Nat}{u d:Int} (h:∀i,i<T->c i=c' i):∀j,j<=T->gM c T u d j=gM c' T u d j
 | 0,_=>rfl
 | j+1,hj=>funext fun i=>by rw [gM,gM,yq h j (by omega),h (T-1-j) (by omega)]
theorem mk_congr {f g:Nat->Int} (h:∀i,i<n->f i=g i):mk n f=mk n g:=List.map_congr_left fun i hi=>h i (List.mem_range.1 hi)
def rbZ (z:Nat->Int) (n:Nat) (u d:Int) (kk i:Nat):Int:=ae (mvL z n u d) i*d ^ (kk-(tl z n-1))
section
variable {kk:Nat}{u d:Int}{L P:List Int}
theorem iB (hL:an (mk n z)=L):L.length=tl z n:=by rw [<- hL,eQ]
theorem nz (hL:an (mk n z)=L) (i:Nat) (hi:i<tl z n):ae L i=z i:=by
 have:=bi z n
 rw [<- hL,fM,cM,if_pos (by omega)]
theorem yr (hd:d≠0) (hL:an (mk n z)=L) (hk:tl z n-1<=kk) (i:Nat) (hi:i<tl z n:=by omega):qB L u d i*((d ^ kk:Int):Rat)=((rbZ z n u d kk i:Int):Rat):=by
 have e:qB L u d i=wM z (tl z n) u d (tl z n) i:=by
  show Rat.divInt (gM (ae L) L.length u d L.length i) (d ^ (L.length-1))=Rat.divInt (gM z (tl z n) u d (tl z n) i) (d ^ (tl z n-1))
  rw [iB hL,yq (nz hL) _ (Nat.le_refl _)]
 have h1:=Iz (c:=z) (T:=tl z n) (u:=u) hd i
 rw [yh rfl (by omega) hd i hi] at h1
 have h2:d ^ kk=d ^ (tl z n-1)*d ^ (kk-(tl z n-1)):=by rw [<- Int.pow_add];congr 1;omega
 rw [e,rbZ,h2,Rat.intCast_mul,Rat.intCast_mul,<- h1,<- Rat.mul_assoc]
 congr 2
 push_cast
 rfl
theorem sP (hd:d≠0) (h0:0<tl z n):rbZ z n u d kk (tl z n-1)≠0:=by
 refine Int.mul_ne_zero ?_ (Int.pow_ne_zero hd)
 rw [<- yh rfl h0 hd _ (by omega)]
 have:=yd (u:=u) h0 (gE z n h0) hd (tl z n-1)
 rwa [Nat.sub_add_cancel h0] at this
theorem yu (hd:d≠0) (hP:an (mk (mvL z n u d).length fun i=>ae (mvL z n u d) i*d ^ (kk-(tl z n-1)))=P):P.length=tl z n:=by
 rw [<- hP,eQ,pN]
 exact mc fun h=>sP (kk:=kk) hd h
theorem yw (_hd:d≠0) (hP:an (mk (mvL z n u d).length fun i=>ae (mvL z n u d) i*d ^ (kk-(tl z n-1)))=P) (i:Nat) (hi:i<tl z n:=by omega):ae P i=rbZ z n u d kk i:=by
 rw [<- hP,fM,cM,pN,if_pos hi];rfl
end
section
variable {x y:Nat->Int}{kk g:Nat}{u d:Int}{Lx Ly P Q:List Int}
theorem yx (hd:0<d) (hLx:an (mk n x)=Lx) (hLy:an (mk m y)=Ly) (hP:an (mk (mvL x n u d).length fun i=>ae (mvL x n u d) i*d ^ (kk-(tl x n-1)))=P) (hQ:an (mk (mvL y m u d).length fun i=>ae (mvL y m u d) i*d ^ (kk-(tl y m-1)))=Q)
  (hg:bp (bZ (aA (ae P) (ae Q)) (aA P.length Q.length) (d ^ kk)) ((aU (aA (ae P) (ae Q)) (aA P.length Q.length) 2).length+1)=g) (hk1:tl x n-1<=kk:=by omega) (hk2:tl y m-1<=kk:=by omega) :
  ((dB Lx Ly u d:Nat):Int)*(g:Int)=d ^ kk∧(∀i,i<Lx.length->rbZ x n u d kk i=cuX (qB Lx u d) (dB Lx Ly u d) i*(g:Int))∧(∀i,i<Ly.length->rbZ y m u d kk i=cuX (qB Ly u d) (dB Lx Ly u d) i*(g:Int)):=by
 have hd':d≠0:=by omega
 have lx:=iB hLx
 have ly:=iB hLy
 have px:=yu hd' hP
 have py:=yu hd' hQ
 have h:=ym (q:=bc Lx.length (qB Lx u d) (qB Ly u d)) (R:=dd Lx.length (rbZ x n u d kk) (rbZ y m u d kk)) (C:=d ^ kk) (n:=Lx.length+Ly.length) (Int.pow_pos hd) fun i hi=>by
  unfold bc dd
  split
  ·exact yr hd' hLx hk1 i
  ·exact yr hd' hLy hk2 _
 have e:bp (dd (Lx.length+Ly.length) (dd Lx.length (rbZ x n u d kk) (rbZ y m u d kk)) fun _=>d ^ kk) (Lx.length+Ly.length+1)=g:=by
  rw [<- hg,jh,px,py,lx,ly]
  refine pQ fun i hi=>?_
  unfold dd
  split
  ·split
   ·rw [sG,yw hd' hP _]
   ·have:=sH (x:=ae P) (y:=ae Q) (nx:=tl x n) (ny:=tl y m) (d:=d ^ kk) (i:=i-tl x n)
    rw [show tl x n+(i-tl x n)=i by omega] at this
    rw [this,yw hd' hQ _]
  ·obtain rfl:i=tl x n+tl y m:=by omega
   have:=nj (zz:=aA (ae P) (ae Q)) (ln:=aA (tl x n) (tl y m)) (d:=d ^ kk)
   rw [jh] at this
   exact this
 rw [e] at h
 refine ⟨h.1,fun i hi=>?_,fun i hi=>?_⟩
 ·have:=h.2 i (by omega)
  rwa [dd,if_pos hi,show cuX (bc Lx.length (qB Lx u d) (qB Ly u d)) (dB Lx Ly u d) i=cuX (qB Lx u d) (dB Lx Ly u d) i by unfold cuX bc;rw [if_pos hi]] at this
 ·have:=h.2 (Lx.length+i) (by omega)
  rwa [dd,if_neg (by omega),Nat.add_sub_cancel_left,show cuX (bc Lx.length (qB Lx u d) (qB Ly u d)) (dB Lx Ly u d) (Lx.length+i)=cuX (qB Ly u d) (dB Lx Ly u d) i by unfold cuX bc;rw [if_neg (by omega),Nat.add_sub_cancel_left]] at this
end
section
variable {kk:Nat}{u d:Int}
theorem sQ (hd:Bd d.natAbs 2):∀j,j<=6->Bd (d ^ j).natAbs 20:=fun j hj=>by
 rw [Int.natAbs_pow]
 exact (Bd.sR hd j).more (by omega)
theorem IK (h6:tl z n<=6) (hz:∀i,i<n->Bd (z i).natAbs 3) (hu:Bd u.natAbs 2) (hd:Bd d.natAbs 2) (j a:Nat) (hj:j<=tl z n) (ha:a<tl z n):Bd (mvS z n u d j a).natAbs 300:=by
 have hle:=bi z n
 have h1:=IL (u:=u) (fun i hi=>hz i (by omega)) hd hu j a ha
 have h2:j*(tl z n*(2+1))<=6*(6*(2+1)):=Nat.mul_le_mul (by omega) (Nat.mul_le_mul_right _ (by omega))
 exact h1.more (by omega)
theorem yy (hz:∀i,i<n->Bd (z i).natAbs 3) (hu:Bd u.natAbs 2) (hd:Bd d.natAbs 2) (hk:kk<=6) (i:Nat) (h6:tl z n<=6:=by omega) (hi:i<tl z n:=by omega):Bd (rbZ z n u d kk i).natAbs 340:=by
 rw [rbZ,sU hi,Int.natAbs_mul,Int.natAbs_mul]
 exact ((IK h6 hz hu hd _ i (Nat.le_refl _) hi).mul (sQ hd i (by omega))).mul (sQ hd _ (by omega))
end
structure pT (x y:Nat->Int) (n m:Nat) (u d:Int) (Lx Ly:List Int):Prop where
 n200:n<=200
 aaw:m<=200
 hx:an (mk n x)=Lx
 hy:an (mk m y)=Ly
 x6:Lx.length<=6
 y6:Ly.length<=6
 bx:∀i,i<n->Bd (x i).natAbs 3
 iC:∀i,i<m->Bd (y i).natAbs 3
 dp:0<d
 bu:Bd u.natAbs 2
 bd:Bd d.natAbs 2
section
variable {x y:Nat->Int}{u d:Int}{Lx Ly:List Int}
theorem pT.all (h:pT x y n m u d Lx Ly):Bd (dB Lx Ly u d) 340∧(∀i,i<Lx.length->Bd (cuX (qB Lx u d) (dB Lx Ly u d) i).natAbs 340)∧(∀i,i<Ly.length->Bd (cuX (qB Ly u d) (dB Lx Ly u d) i).natAbs 340)∧(0<Lx.length->cuX (qB Lx u d) (dB Lx Ly u d) (Lx.length-1)≠0)∧(0<Ly.length->cuX (qB Ly u d) (dB Lx Ly u d) (Ly.length-1)≠0):=by
 have lx:=iB h.hx
 have ly:=iB h.hy
 have hx6:=h.x6
 have hy6:=h.y6
 have hd':d≠0:=by have:=h.dp;omega
 obtain ⟨h1,h2,h3⟩:=yx (kk:=6) h.dp h.hx h.hy rfl rfl rfl
 generalize bp _ _=g at h1 h2 h3
 have hg:0<g:=by
  rcases Nat.eq_zero_or_pos g with e | e
  ·rw [e] at h1
   have:(0:Int)<d ^ 6:=Int.pow_pos h.dp
   omega
  ·exact e
 have hle:∀{a b:Int},a=b*(g:Int)->b.natAbs<=a.natAbs:=fun {a b} e=>by
  rw [e,Int.natAbs_mul,Int.natAbs_natCast]
  exact Nat.le_mul_of_pos_right _ hg
 refine ⟨?_,fun i hi=>?_,fun i hi=>?_,fun h0=>?_,fun h0=>?_⟩
 ·have:=hle h1.symm
  rw [Int.natAbs_natCast] at this
  exact ((sQ h.bd 6 (by omega)).le this).more (by omega)
 ·exact (yy h.bx h.bu h.bd (Nat.le_refl 6) i).le (hle (h2 i hi))
 ·exact (yy h.iC h.bu h.bd (Nat.le_refl 6) i).le (hle (h3 i hi))
 ·intro e
  have h5:=h2 _ (show Lx.length-1<Lx.length by omega)
  rw [e,Int.zero_mul,lx] at h5
  exact sP hd' (by omega) h5
 ·intro e
  have h5:=h3 _ (show Ly.length-1<Ly.length by omega)
  rw [e,Int.zero_mul,ly] at h5
  exact sP hd' (by omega) h5
end
section
variable {Φ:PH}{p q r p0 p1 p2 k ks kt:Nat}{x y:Nat->Int}{t:Rat}{u d:Int}{Lx Ly X Y:List Int}
end
open Go.RowKit Go.ChangeShapes Go.WideShapes Go.ChangeAt
theorem IM:Tryz.prog.cellsOf 24=1:=by kernel_rfl
theorem IN:Tryz.prog.cellsOf 29=4:=by kernel_rfl
section
variable {H:Type}{enc:TypeId×Value->H}{W:World}{base:Nat}{held:Bool}
theorem sV {x:Value}{fuel:Nat}{z:DataW H×List MemPlace} (hf:DataW.trod enc Tryz.prog W base (fun _=>true) held fuel 24 [x]=some z):∃(n:Nat) (a:Nat->Bool) (xs:Nat->List Nat),n<=9223372036854775807∧Rw 2 (fun i w v=>aH w v (a i) (xs i)) n W x:=by
 rcases Deep.open_slice Tryz.underlying24 hf with ⟨hcs,_⟩ | ⟨a,len,cap,m,n,D,Pl,hcs,_,hl,hm,hmm,_,hx⟩
 ·obtain rfl:x = .slice none 0 0:=by simpa using hcs
  exact ⟨0,fun _=>false,fun _=>[],by omega,none,0,rfl,Nat.le_refl _,fun i hi=>by omega⟩
 ·obtain rfl:x = .slice (some a) len cap:=by simpa using hcs
  simp only [if_true] at hmm
  have each:∀i,i<len->∃q:Bool×List Nat×List Value,q.2.2.length=2∧(∀(j:Nat) (u:Value),q.2.2[j]?=some u->W.cell? (a.add (i*2+j))=some u)∧aH W (.agg q.2.2.toArray) q.1 q.2.1:=fun i hi=>by
   obtain ⟨cs,h1,h2⟩:=hx i (by omega)
   rw [Tryz.cells24] at h1
   obtain ⟨_,hlen,hcell⟩:=World.cells?_some h1
   match cs,hlen with
   | [c0,c1],_=>
    obtain ⟨b,xs,rfl,h5,h6⟩:=sW h2
    refine ⟨(b,xs,[.bool b,c1]),rfl,fun j u hj=>?_,⟨_,rfl,h5,h6⟩⟩
    have hlt:=(List.getElem?_eq_some_iff.1 hj).1
    have e:=hcell j (by simpa using hlt)
    rw [Deep.add_add] at e
    rw [e]
    exact hj
  obtain ⟨q,hq⟩:=Deep.choose_lt each
  refine ⟨len,fun i=>(q i).1,fun i=>(q i).2.1,?_,some a,cap,rfl,hl,fun i hi=>?_⟩
  ·have:maxLen<=9223372036854775807:=by decide
   omega
  obtain ⟨h1,h2,h3⟩:=hq i hi
  obtain ⟨b,off,spot⟩:=a
  obtain ⟨g1,g2,-⟩:=hq 0 (by omega)
  have h0:=g2 0 ((q 0).2.2[0]'(by omega)) (List.getElem?_eq_getElem (by omega))
  have hspot:spot=none:=by simpa [Addr.add] using World.cell?_spot h0
  subst hspot
  refine ⟨b,off,rfl,(q i).2.2,h1,fun j u hj=>?_,h3⟩
  have:=h2 j u hj
  rw [Addr.add_lit] at this
  rw [Nat.add_assoc];exact this
end
theorem yA  (h:Rw 2 (fun i w v=>KI w v (a i) (xs i) (z i) m) n w v):Rw 2 (If z m) n w v:=Rw.to h fun _ _ _ _ h=>h.2
def IP (aa ab:Nat->Bool) (xsa xsb:Nat->List Nat) (kH kJ:Nat->Int) (ma mb Na Nb K m:Nat) (a0:Bool) (xs0:List Nat) (z0:Int):List WP:=[fun w v=>Rw 2 (fun ι w v=>aH w v (aa ι) (xsa ι)) ma w v,fun w v=>Rw 2 (fun ι w v=>aH w v (ab ι) (xsb ι)) mb w v,fun w v=>aH w v a0 xs0,Nz K,Nz m,fun w v=>Rw 2 (fun ι w v=>KI w v (aa ι) ((fun ι=>(xsa ι).take m) ι) (kH ι) m) Na w v,fun w v=>Rw 2 (fun ι w v=>KI w v (ab ι) ((fun ι=>(xsb ι).take m) ι) (kJ ι) m) Nb w v,fun w v=>KI w v a0 (xs0.take m) z0 m]
def IQ:List Step:=[.base ⟨82,[0,3,4],[oS 5],false⟩,.base ⟨82,[1,3,4],[oS 6],false⟩,.base ⟨83,[2,4],[oI 7],false⟩]
def IR:List Out:=[⟨.agg [.s,.s,.b,.s],[(0,1,0),(1,1,1),(2,2,2)]⟩,oN 3,oN 4]
theorem IS {aa ab:Nat->Bool}{xsa xsb:Nat->List Nat}{kH kJ:Nat->Int}{ma mb Na Nb K:Nat}{a0:Bool}{xs0:List Nat}{z0:Int} (hK:K<=1000000) (hna:ma<=9223372036854775807) (hnb:mb<=9223372036854775807) (hza:∀j,sg (aa j) (Proofs.YtbjfgffibepmkaaGreat.val 4294967296 ((xsa j).take m))=kH j) (hzb:∀j,sg (ab j) (Proofs.YtbjfgffibepmkaaGreat.val 4294967296 ((xsb j).take m))=kJ j) (sZ:min ma K=Na) (ta:min mb K=Nb) (hz0:sg a0 (Proofs.YtbjfgffibepmkaaGreat.val 4294967296 (xs0.take m))=z0):aj (ph (IP aa ab xsa xsb kH kJ ma mb Na Nb K m a0 xs0 z0)) Tryz.prog ⟨46,[.parts (.agg [.s,.s,.b,.s]) [(0,1,0),(1,1,1),(2,2,2)],3,4],[⟨.agg [.s,.s,.b,.s],[(0,1,5),(1,1,6),(2,2,7)]⟩],false⟩:=aQ IR [⟨.agg [.s,.s,.b,.s],[(0,1,5),(1,1,6),(2,2,7)]⟩] IQ Tryz.func46 (by kernel_rfl) (lB (yB K m ad ad ad rfl hza sZ) (lB (yB K m ad ad ad rfl hzb ta) (lB (tc m ad ad rfl hz0) aD)))
  (aM [.parts (.agg [.s,.s,.b,.s]) [(0,1,0),(1,1,1),(2,2,2)],.fact 3 (.one (.i)),.fact 4 (.one (.i))] ⟨trivial,fun _ _ h=>h▸dc _,fun _ _ h=>h▸dc _,trivial⟩) (fun _ _ _ h=>h)
section
variable {Φ:PH}{p0 p1 p2 q0 q1 q2:Nat}{aa ab:Nat->Bool}{xsa xsb:Nat->List Nat}{kH kJ:Nat->Int}{ma mb Na Nb:Nat}{a0:Bool}{xs0:List Nat}{z0 Ki mi:Int}
theorem iD (K m:Nat) (hKi:(K:Int)=Ki) (hmi:(m:Int)=mi) (h0:∀w v,Φ p0 w v->Rw 2 (fun i w v=>aH w v (aa i) (xsa i)) ma w v) (h1:∀w v,Φ p1 w v->Rw 2 (fun i w v=>aH w v (ab i) (xsb i)) mb w v) (h2:∀w v,Φ p2 w v->aH w v a0 xs0) (g0:Φ q0=Rw 2 (If kH m) Na) (g1:Φ q1=Rw 2 (If kJ m) Nb) (g2:Φ q2=Iw z0 m) (hna:ma<=9223372036854775807) (hnb:mb<=9223372036854775807) (hza:∀j,sg (aa j) (Proofs.YtbjfgffibepmkaaGreat.val 4294967296 ((xsa j).take m))=kH j) (hzb:∀j,sg (ab j) (Proofs.YtbjfgffibepmkaaGreat.val 4294967296 ((xsb j).take m))=kJ j) (sZ:min ma K=Na) (ta:min mb K=Nb) (hz0:sg a0 (Proofs.YtbjfgffibepmkaaGreat.val 4294967296 (xs0.take m))=z0) (hK:K<=1000000:=by omega) :
  aj Φ Tryz.prog ⟨46,[.parts cS [(0,1,p0),(1,1,p1),(2,2,p2)],.lit (.ci .i64 Ki),.lit (.ci .i64 mi)],[⟨.agg [.s,.s,.b,.s],[(0,1,q0),(1,1,q1),(2,2,q2)]⟩],false⟩:=by
 subst hKi
 subst hmi
 exact aT (IS (K:=K) (m:=m) hK hna hnb hza hzb sZ ta hz0) ⟨⟨rfl,⟨rfl,rfl,h0⟩,⟨rfl,rfl,h1⟩,⟨rfl,rfl,h2⟩,trivial⟩,fun _=>rfl,fun _=>rfl,trivial⟩ ⟨⟨rfl,⟨rfl,rfl,fun _ _ h=>by rw [g0];exact yA h⟩,⟨rfl,rfl,fun _ _ h=>by rw [g1];exact yA h⟩,⟨rfl,rfl,fun _ _ h=>by rw [g2];exact kI _ _ h⟩,trivial⟩,trivial⟩
end
theorem yC  (h:Rw 2 (fun i w v=>aH w v (a i) (xs i)) n w v) (hz:∀j,sg (a j) (Proofs.YtbjfgffibepmkaaGreat.val 4294967296 ((xs j).take m))=z j) (i:Nat) (hi:i<n):Bd (z i).natAbs m:=by
 obtain ⟨p,c,rfl,_,h1⟩:=h
 obtain ⟨_,_,_,l,_,_,s,_,_,h2⟩:=h1 i hi
 rw [<- hz i,ee]
 exact Bd.row _ h2 m
end Go.Proofs.YtbjfgffibepmkaaGreat.Sym
