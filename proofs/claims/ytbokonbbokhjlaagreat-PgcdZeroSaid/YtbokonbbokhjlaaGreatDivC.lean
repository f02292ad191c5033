/- pdiv.reduce. pdiv.Content, divided, Primitive, Rest. -/
import Derived.Test.YtbokonbbokhjlaaGreatDivT
import Derived.Test.YtbokonbbokhjlaaGreatDivA
import Derived.Test.YtbokonbbokhjlaaGreatCatB
import Derived.Test.YtbokonbbokhjlaaGreatPolD
set_option maxRecDepth 100000
namespace Go.Proofs.YtbokonbbokhjlaaGreat.Sym
open Go.RowKit
section
variable {z y:Nat->Int}{n m j k:Nat}{c:Int}
end
section
variable {Φ:PH}{p q x x' n m la l kp K j j2:Nat}{z y:Nat->Int}{c:Int}{L2:List Int}
end
section
variable {Φ:PH}{p q x n m k l j:Nat}{z:Nat->Int}{c:Int}{L:List Int}{zz:Nat->Nat->Int}{ln:Nat->Nat}
theorem Gp (hp:∀w v,Φ p w v->Rw 1 (bf zz ln k) n w v) (hx:Φ x=ah 2 52 (If (ae (bO zz ln n)) k) (bO zz ln n).length) (hn:n<=1000) (hs:∀j,j<=n->(bO zz ln j).length<=1000000):ai Φ Tryz.prog ⟨111,[.fact p],[oS x],false⟩:=
 aW (concat hn hs) ⟨hp,trivial⟩ ⟨⟨rfl,⟨rfl,rfl,fun _ _ h=>hx▸h⟩,trivial⟩,trivial⟩
theorem Gs {w:World}{v:Value} (h:ah 2 52 (If z k) n w v):kV w v n z k:=by
 obtain ⟨p,c,rfl,hc,he⟩:=h.rw
 obtain ⟨rows,-,-,ho,-⟩:=h
 have hcap:c<=9223372036854775807:=by
  rcases ho.1.2 with ⟨h1,-⟩ | ⟨g,cap,cur,h1,-,-,-,h4,-⟩
  ·simp only [Value.slice.injEq] at h1
   omega
  ·simp only [Value.slice.injEq] at h1
   obtain ⟨-,-,rfl⟩:=h1
   simp only [maxLen] at h4;omega
 refine ⟨p,c,rfl,hc,hcap,?_⟩
 rcases Nat.eq_zero_or_pos n with h0 | h0
 ·exact .inl h0
 ·obtain ⟨b,off,rfl,-⟩:=he 0 h0
  refine .inr ⟨b,off,rfl,fun j hj=>?_⟩
  obtain ⟨b',off',hb,l,h1,h2,x,s,X,h3,h4,h5⟩:=he j hj
  simp only [Option.some.injEq,Addr.mk.injEq,and_true] at hb
  obtain ⟨rfl,rfl⟩:=hb
  obtain rfl:l = [.bool x,s]:=by simpa using h3
  exact ⟨x,s,X,h2 0 _ rfl,h2 1 _ rfl,h4,h5⟩
theorem Gt (hp:∀w v,Φ p w v->ah 2 52 (If z k) n w v) (hx:Φ x=Nw (bt z n:Int) k) (hk:k<=1000000):ai Φ Tryz.prog ⟨110,[.fact p],[⟨iS,[(0,0,x)]⟩],false⟩:=
 gj fun _ _ _ h0=>((xp (Gs (hp _ _ (get h0))) hk).mono fun _ _ h=>h.got).mono fun _ _ h=>jw hx h
end
def Gu (zz:Nat->Nat->Int) (ln:Nat->Nat) (n k:Nat):List WP:=[Rw 1 (bf zz ln k) n,ah 2 52 (If (ae (bO zz ln n)) k) ((bO zz ln n).length),Nw (bt (ae (bO zz ln n)) ((bO zz ln n).length):Int) k]
def Gv:List Step:=[.base ⟨111,[.fact 0],[oS 1],false⟩,
   .base ⟨110,[.fact 1],[oI 2],false⟩]
def Gw:List Out:=[oS 0]
theorem Gx {zz:Nat->Nat->Int}{ln:Nat->Nat}{n k:Nat} (hn:n<=1000) (hk:k<=100000) (hs:∀j,j<=n->(bO zz ln j).length<=1000000):ai (ph (Gu zz ln n k)) Tryz.prog ⟨84,[.fact 0],[oI 2],false⟩:=by
 skip
 exact aV Gw [oI 2] Gv Tryz.func84 (by kernel_rfl)
  (lB (Gp ad rfl (by omega) hs)
   (lB (Gt ad rfl (by omega))
   aw))
  (aL [.fact 0 (.one (.s))] ⟨Rw.Is 1 (bf zz ln k) n,trivial⟩) bc
def dK (f:Nat->Int) (c:Int) (j i:Nat):Int:=if i<j then f i / c else f i
def dvL (z:Nat->Int) (n:Nat) (c:Int):List Int:=mk (tl z n) fun i=>z i / c
section
variable {f:Nat->Int}{c:Int}{i j:Nat}
theorem Gy:dK f c 0 i=f i:=if_neg (by omega)
theorem Gz (h:i≠j):dK f c (j+1) i=dK f c j i:=by
 unfold dK
 split <;> split <;> first | rfl | omega
theorem xq:dK f c j j=f j:=if_neg (by omega)
theorem GA:dK f c j j / c=dK f c (j+1) j:=by rw [xq,dK,if_pos (by omega)]
end
theorem rZ {f g:Nat->Int}:∀{n:Nat},(∀i,i<n->f i=g i)->bt f n=bt g n
 | 0,_=>rfl
 | n+1,h=>by rw [bt,bt,rZ fun i hi=>h i (by omega),h n (by omega)]
theorem xr {z:Nat->Int}:∀{n:Nat} (i:Nat),i<n->bt z n∣(z i).natAbs
 | n+1,i,hi=>by
  rw [bt]
  rcases Nat.lt_or_ge i n with h | h
  ·exact Nat.dvd_trans (Nat.gcd_dvd_left _ _) (xr i h)
  ·obtain rfl:i=n:=by omega
   exact Nat.gcd_dvd_right _ _
theorem r8 {z:Nat->Int}{n:Nat} (i:Nat) (hi:i<n):((bt z n:Nat):Int)∣z i:=Int.ofNat_dvd_left.2 (xr i hi)
theorem r9 {z:Nat->Int}{n:Nat} (h:0<tl z n):((bt z n:Nat):Int)≠0:=fun e=>by
 have h1:=gk z n h
 have h2:=r8 (z:=z) (n:=n) (tl z n-1) (by have:=aF z n;omega)
 rw [e] at h2
 exact h1 (Int.zero_dvd.1 h2)
def bS (z:Nat->Int) (n:Nat):Int:=if cD z n<0 then -(bt z n:Int) else (bt z n:Int)
theorem sa {z:Nat->Int}{n:Nat} (i:Nat) (hi:i<n):bS z n∣z i:=by
 unfold bS
 split
 ·exact Int.neg_dvd.2 (r8 i hi)
 ·exact r8 i hi
theorem sb {z:Nat->Int}{n:Nat} (h:0<tl z n):bS z n≠0:=by
 have:=r9 h
 unfold bS
 split <;> omega
def sc (z:Nat->Int) (n k l:Nat) (c:Int) (Z:List Int):List WP:=[Rw 2 (If z k) n,Iw c l,ah 2 52 (Nf (ae Z) k) Z.length,b9 Z.length,Ni ((Z.length:Nat):Int),ah 2 52 (Nf (dK (ae Z) c Z.length) k) Z.length]
def GB (k:Nat) (c:Int) (Z:List Int) (j:Nat):List WP:=[Nz j,ah 2 52 (Nf (dK (ae Z) c j) k) Z.length,fun _ _=>True,At 2,Ptr 2 (Nw ((dK (ae Z) c j) j) k),Nw ((dK (ae Z) c j) j) k,Nw (((dK (ae Z) c j) j) / c) k,At 2,Ptr 2 (Nw ((dK (ae Z) c j) j) k),fun w v=>ah 2 52 (fun ι w v=>af w v ((dK (ae Z) c (j+1)) ι) k) Z.length w v,Nz (j+1)]
def xt:bg:=⟨[0,1,3,4,8,9,11],[(.slot 12,.i),(.two 10 5,.s)],[(.one 0,6),(.one 1,.Ru [1] 7),(.one 1,.lo 1)],[.closed (.one (.ci .i64 0)),.frm 2,.frm 0],6,[(7,5)]⟩
def xu:List Step:=[bQ [.fact 6,.fact 4] oT (ak .lss),
   .base ⟨0,[.fact 7,.fact 6],[oP 10],.joint [1] 9 (aG 28)⟩,
   .base ⟨0,[.fact 10],[oI 11],.dd [1] (aM 52)⟩,
   .base ⟨113,[.fact 11,.fact 1],[oI 12,oL (.ci .i64 0)],true⟩,
   .base ⟨0,[.fact 7,.fact 6],[oP 14],.joint [1] 13 (aG 28)⟩,
   .base ⟨0,[.fact 7,.fact 6,.any,.fact 12],[oS 15],.put [] 1 0 13 (dV 52 (.tmp 18) (.tmp 19))⟩,
   bQ [.fact 6,.lit (.ci .i64 1)] [oN 16] (ak .add)]
def GC:List Step:=[bQ [.fact 6,.fact 4] oF (ak .lss)]
def GD:List Step:=[.base ⟨112,[.fact 0],[oS 2],.cu [] 1⟩,
   .freed (.one (.s 4 0)) 2 3,
   bQ [.fact 3] [oN 4] (aD 28),
   .loop xt [(xu,[.frm 16,.frm 15,.frm 0])] GC]
def GE:List Out:=[oS 0,oI 1]
theorem GF {z:Nat->Int}{n k l:Nat}{c:Int}{Z:List Int} (hn:n<=1000000) (hk:k<=400000) (hl:l<=400000) (hZ:be (mk n z)=Z) (hc:0<Z.length->c≠0) (hd:∀i,i<Z.length->c∣ae Z i):ai (ph (sc z n k l c Z)) Tryz.prog ⟨86,[.fact 0,.fact 1],[oS 5],false⟩:=by
 have hZl:Z.length<=n:=by rw [<- hZ,gl];exact aF _ _
 exact aV GE [oS 5] GD Tryz.func86 (by kernel_rfl)
  (lB (mm (Rw.To 2 (If z k) n (fun _ _ _ _ h=>h)) rfl (by omega) (by omega) hZ)
   (cV (cW (e:=52) (sz:=2) (n:=Z.length) (F:=(Nf (ae Z) k)) ad rfl)
   (lB (ce (n:=Z.length) Tryz.underlying28 ad rfl)
   (bz (counted Z.length (fun j=>ph (sc z n k l c Z ++ GB k c Z j)) (fun _=>0) (fun j p hp=>bB (show p<(sc z n k l c Z).length from hp)) ⟨fun _=>rfl,fun _ _ h=>ah.to (sz:=2) (e:=52) (n:=Z.length) (F:=fun ι w v=>af w v (ae Z ι) k) (G:=fun ι w v=>af w v (dK (ae Z) c 0 ι) k) h fun a w v ha h=>by rw [Gy];exact h,aS,trivial⟩ (fun j hj=>by
   skip
   exact ⟨(xu,[.frm 16,.frm 15,.frm 0]),rfl,⟨ad,ad,aS,trivial⟩,(lB (cU ad ad)
   (lB (bI (i:=j) (sz:=2) (n:=Z.length) (F:=(Nf (dK (ae Z) c j) k)) Tryz.underlying28 (by kernel_rfl) (fun _ _ h=>ah.arr h) ad (by omega) rfl rfl)
   (lB (ff (sz:=2) (F:=Nw ((dK (ae Z) c j) j) k) (by kernel_rfl) (by kernel_rfl) ad (fun _ _ _ g h=>af.kp h g) (fun _ _ h=>af.is h) rfl)
   (lB (pH nI iI rfl (by omega) (hc (by omega)) (by rw [xq];exact hd j hj) rfl)
   (lB (bI (i:=j) (sz:=2) (n:=Z.length) (F:=(Nf (dK (ae Z) c j) k)) Tryz.underlying28 (by kernel_rfl) (fun _ _ h=>ah.arr h) ad (by omega) rfl rfl)
   (lB (fo (i:=j) (n:=Z.length) (F:=(fun ι w v=>af w v ((dK (ae Z) c j) ι) k)) (F':=(fun ι w v=>af w v ((dK (ae Z) c (j+1)) ι) k)) (G:=Nw (((dK (ae Z) c j) j) / c) k) (.tmp 18) (.tmp 19) (by kernel_rfl) ad ad (by omega) ad rfl (fun _ _ h=>af.cells h) (fun _ _ _ _ g h=>af.kp h g) (fun _ _ _ g h=>af.kp h g) (fun a w v ha h=>by rw [Gz ha];exact h) (fun w v h=>h.eq GA) rfl)
   (lB (cN ad (by omega) rfl (by omega) (by omega))
   aw)))))))⟩)
   (lB (tlF ad ad)
   aw)
   (fun q hq w v h=>by
    simp only [xt,List.mem_cons,List.not_mem_nil,or_false] at hq
    rcases hq with rfl
    ·exact (fun h=>h) h)) aw))))
  (aL [.fact 0 (.one (.s)),.fact 1 (.agg [.b,.s])] ⟨Rw.Is 2 (If z k) n,fun _ _ h=>aC.is h,trivial⟩) bc
section
variable {Φ:PH}{p q x n m k l j:Nat}{z:Nat->Int}{c:Int}{L:List Int}{zz:Nat->Nat->Int}{ln:Nat->Nat}
theorem xw (hp:∀w v,Φ p w v->Rw 2 (If z k) n w v) (hq:∀w v,Φ q w v->aC w v c l) (hx:Φ x=Rw 2 (Nf (ae L) k) L.length) (hn:n<=1000000) (hk:k<=400000) (hl:l<=400000) (hc:0<tl z n->c≠0) (hd:∀i,i<tl z n->c∣z i) (hL:dvL z n c=L):ai Φ Tryz.prog ⟨86,[.fact p,.fact q],[oS x],false⟩:=by
 have hT:(be (mk n z)).length=tl z n:=gl n z
 have hZ:∀i,i<tl z n->ae (be (mk n z)) i=z i:=fun i hi=>by
  have:=aF z n
  rw [nw,fl,if_pos (by omega)]
 refine aW (GF (c:=c) (l:=l) (Z:=be (mk n z)) hn hk hl rfl (by rw [hT];exact hc) (fun i hi=>by rw [hT] at hi;rw [hZ i hi];exact hd i hi)) ⟨hp,hq,trivial⟩ ⟨⟨rfl,⟨rfl,rfl,fun _ _ h=>?_⟩,trivial⟩,trivial⟩
 rw [hx,<- hL,dvL,iG,<- hT]
 exact Rw.to (sz:=2) (n:=(be (mk n z)).length) (F:=Nf (dK (ae (be (mk n z))) c (be (mk n z)).length) k) (ah.rw (e:=52) h) fun i w v hi h=>h.eq (by
  rw [dK,if_pos hi,fl,if_pos hi,hZ i (hT▸hi)])
theorem xy {J:List Nat} (h0:∀w v,Φ p w v->Rw 2 (If z k) n w v) (hx:Φ x=Rw 1 (bf (fun _=>z) (fun _=>n) k) 1):ai Φ Tryz.prog ⟨0,[.any,.fact p],[oS x],.fresh J (cj 41 1)⟩:=
 fB (ps:=[p]) (sz:=1) (zc:=.one .nl) Tryz.underlying41 (by kernel_rfl) (by omega) (by kernel_rfl) (by omega) (by omega) rfl (fun i q h w v hv=>by
  match i,h with
  | 0,h=>
   obtain rfl:=Option.some.inj h
   have:=fC (h0 w v hv)
   rw [this]
   exact ⟨rfl,v,rfl,h0 w v hv⟩
  | i+1,h=>simp at h) hx
theorem GG (hp:∀w v,Φ p w v->Rw 1 (bf zz ln k) n w v) (hx:Φ x=Nw (bt (ae (bO zz ln n)) (bO zz ln n).length:Int) k) (hn:n<=1000) (hk:k<=100000) (hs:∀j,j<=n->(bO zz ln j).length<=1000000):ai Φ Tryz.prog ⟨84,[.fact p],[⟨iS,[(0,0,x)]⟩],false⟩:=
 aW (Gx hn hk hs) ⟨hp,trivial⟩ ⟨⟨rfl,⟨rfl,rfl,fun _ _ h=>hx▸h⟩,trivial⟩,trivial⟩
theorem xz (hp:∀w v,Φ p w v->Rw 1 (bf (fun _=>z) (fun _=>n) k) 1 w v) (hx:Φ x=Nw (bt z n:Int) k) (hn:n<=1000000) (hk:k<=100000):ai Φ Tryz.prog ⟨84,[.fact p],[⟨iS,[(0,0,x)]⟩],false⟩:=by
 have e:bO (fun _=>z) (fun _=>n) 1=mk n z:=by simp [bO]
 refine GG hp (hx.trans ?_) (by omega) hk (fun j hj=>?_)
 ·rw [e,iG,rZ (f:=ae (mk n z)) (g:=z) fun i hi=>by rw [fl,if_pos hi]]
 ·match j,hj with
  | 0,_=>exact Nat.zero_le _
  | 1,_=>rw [e,iG];exact hn
theorem GH {w:World}{v:Value}{y:Int}{k:Nat} (h:af w v y k):∃s n c,v = .agg #[.bool (decide (y<0)),.slice s n c]:=by
 obtain ⟨⟨p,c,h1,-⟩,-⟩:=h
 exact ⟨_,_,_,h1⟩
theorem xA {b:Bool} (hp:∀w v,Φ p w v->Rw 2 (If z k) n w v) (hx:Φ x=Nw (cD z n) k) (hn:n<=1000000) (hk:k<=500000) (hb:decide (cD z n<0)=b):ai Φ Tryz.prog ⟨33,[.fact p],[⟨.agg [.lit (.cb b),.s],[(0,0,x)]⟩],false⟩:=fun X w vs hX ha=>by
 refine (iJ (Φ:=Φ) (p:=p) (x:=x) hp hx hn hk rfl X w vs hX ha).mono fun e w' ⟨hg,us,he,ho⟩=>⟨hg,us,he,?_⟩
 match us,ho with
 | [u],ho=>
  refine ⟨⟨?_,ho.1.2⟩,trivial⟩
  have h:=ho.1.2 _ (List.mem_singleton.2 rfl) w' (Off.refl _ _)
  have h':Φ x w' u:=h
  rw [hx] at h'
  obtain ⟨s,n',c',rfl⟩:=GH h'
  exact ⟨[.bool (decide (cD z n<0)),.slice s n' c'],rfl,by rw [hb];rfl,⟨_,_,_,rfl⟩,trivial⟩
end
def GI (z:Nat->Int) (n k:Nat) (P:List Int):List WP:=[Rw 2 (If z k) n,Rw 1 (bf (fun _=>z) (fun _=>n) k) 1,Nw (bt z n:Int) k,Nw (cD z n) k,Rw 2 (Nf (ae P) k) P.length]
def GJ:List Step:=[.base ⟨0,[.any,.fact 0],[oS 1],.fresh [] (cj 41 1)⟩,
   .base ⟨84,[.fact 1],[oI 2],false⟩,
   .base ⟨33,[.fact 0],[⟨.agg [.lit (.cb false),.s],[(0,0,3)]⟩],false⟩,
   .base ⟨86,[.fact 0,.fact 2],[oS 4],false⟩]
def GK:List Out:=[oS 0]
theorem GL {z:Nat->Int}{n k:Nat}{P:List Int} (hn:n<=1000000) (hk:k<=100000) (hs:decide (cD z n<0)=false) (hP:dvL z n ((bt z n:Int))=P) (hc:0<tl z n->(bt z n:Int)≠0) (hd:∀i,i<tl z n->(bt z n:Int)∣z i):ai (ph (GI z n k P)) Tryz.prog ⟨47,[.fact 0],[oI 2,oS 4],true⟩:=by
 skip
 exact aV GK [oI 2,oS 4] GJ Tryz.func47 (by kernel_rfl)
  (lB (xy (z:=z) (n:=n) (Rw.To 2 (If z k) n (fun _ _ _ _ h=>h)) rfl)
   (lB (xz (z:=z) (n:=n) ad rfl (by omega) (by omega))
   (lB (xA (b:=false) (z:=z) (n:=n) (Rw.To 2 (If z k) n (fun _ _ _ _ h=>h)) rfl (by omega) (by omega) (hs))
   (lB (xw (z:=z) (n:=n) (Rw.To 2 (If z k) n (fun _ _ _ _ h=>h)) nI rfl (by omega) (by omega) (by omega) (hc) (hd) (hP))
   aw))))
  (aL [.fact 0 (.one (.s))] ⟨Rw.Is 2 (If z k) n,trivial⟩) bc
def GM (z:Nat->Int) (n k:Nat) (P:List Int):List WP:=[Rw 2 (If z k) n,Rw 1 (bf (fun _=>z) (fun _=>n) k) 1,Nw (bt z n:Int) k,Nw (cD z n) k,Nw (-(bt z n:Int)) k,Rw 2 (Nf (ae P) k) P.length]
def GN:List Step:=[.base ⟨0,[.any,.fact 0],[oS 1],.fresh [] (cj 41 1)⟩,
   .base ⟨84,[.fact 1],[oI 2],false⟩,
   .base ⟨33,[.fact 0],[⟨.agg [.lit (.cb true),.s],[(0,0,3)]⟩],false⟩,
   .base ⟨85,[.fact 2],[oI 4],false⟩,
   .base ⟨86,[.fact 0,.fact 4],[oS 5],false⟩]
def GO:List Out:=[oS 0]
theorem GP {z:Nat->Int}{n k:Nat}{P:List Int} (hn:n<=1000000) (hk:k<=100000) (hs:decide (cD z n<0)=true) (hP:dvL z n (-(bt z n:Int))=P) (hc:0<tl z n->-(bt z n:Int)≠0) (hd:∀i,i<tl z n->-(bt z n:Int)∣z i):ai (ph (GM z n k P)) Tryz.prog ⟨47,[.fact 0],[oI 4,oS 5],true⟩:=by
 skip
 exact aV GO [oI 4,oS 5] GN Tryz.func47 (by kernel_rfl)
  (lB (xy (z:=z) (n:=n) (Rw.To 2 (If z k) n (fun _ _ _ _ h=>h)) rfl)
   (lB (xz (z:=z) (n:=n) ad rfl (by omega) (by omega))
   (lB (xA (b:=true) (z:=z) (n:=n) (Rw.To 2 (If z k) n (fun _ _ _ _ h=>h)) rfl (by omega) (by omega) (hs))
   (lB (GQ nI rfl (by omega) rfl)
   (lB (xw (z:=z) (n:=n) (Rw.To 2 (If z k) n (fun _ _ _ _ h=>h)) nI rfl (by omega) (by omega) (by omega) (hc) (hd) (hP))
   aw)))))
  (aL [.fact 0 (.one (.s))] ⟨Rw.Is 2 (If z k) n,trivial⟩) bc
section
variable {Φ:PH}{p q x y n m k l j:Nat}{z:Nat->Int}{c:Int}{P:List Int}
theorem pI (hp:∀w v,Φ p w v->Rw 2 (If z k) n w v) (hx:Φ x=Nw (bS z n) k) (hy:Φ y=Rw 2 (Nf (ae P) k) m) (hn:n<=1000000) (hk:k<=100000) (hP:dvL z n (bS z n)=P) (hm:P.length=m):ai Φ Tryz.prog ⟨47,[.fact p],[⟨iS,[(0,0,x)]⟩,oS y],true⟩:=by
 subst hm
 by_cases h:cD z n<0
 ·have e:bS z n = -(bt z n:Int):=if_pos h
  rw [e] at hP
  exact aW (GP hn hk (decide_eq_true h) hP (fun h=>e▸sb h) (fun i hi=>e▸sa i (Nat.lt_of_lt_of_le hi (aF _ _)))) ⟨hp,trivial⟩ ⟨⟨rfl,⟨rfl,rfl,fun _ _ h=>hx▸e▸h⟩,trivial⟩,⟨rfl,⟨rfl,rfl,fun _ _ h=>hy▸h⟩,trivial⟩,trivial⟩
 ·have e:bS z n=(bt z n:Int):=if_neg h
  rw [e] at hP
  exact aW (GL hn hk (decide_eq_false h) hP (fun h=>e▸sb h) (fun i hi=>e▸sa i (Nat.lt_of_lt_of_le hi (aF _ _)))) ⟨hp,trivial⟩ ⟨⟨rfl,⟨rfl,rfl,fun _ _ h=>hx▸e▸h⟩,trivial⟩,⟨rfl,⟨rfl,rfl,fun _ _ h=>hy▸h⟩,trivial⟩,trivial⟩
end
end Go.Proofs.YtbokonbbokhjlaaGreat.Sym
