/- pdiv.reduce -/
import Derived.Test.YtomamliepbhegaaGreatDivA
import Derived.Test.YtomamliepbhegaaGreatCatB
import Derived.Test.YtomamliepbhegaaGreatPolD
set_option maxRecDepth 100000
namespace Go.Proofs.YtomamliepbhegaaGreat.Sym
open Go.Proofs.Tryz
open Go.RowKit
variable {w:World}{v:Value}{k n:Nat}{z:Nat->Int}{P:List Int}
section
variable {y:Nat->Int}{m j:Nat}{c:Int}
end
section
variable {Φ:PH}{p q x x' m la l kp K j j2:Nat}{y:Nat->Int}{c:Int}{L2:List Int}
end
section
variable {Φ:PH}{p q x m l j:Nat}{c:Int}{L:List Int}{zz:Nat->Nat->Int}{ln:Nat->Nat}
theorem Mx (hp:∀w v,Φ p w v->Rw 1 (bS zz ln k) n w v) (hx:Φ x=ah 2 57 (If (ae (cu zz ln n)) k) (cu zz ln n).length) (hs:∀j,j<=n->(cu zz ln j).length<=1000000) (hn:n<=1000:=by omega):aj Φ prog ⟨90,[.fact p],[oS x],false⟩:=
 aW (concat hn hs) ⟨hp,trivial⟩ ⟨⟨rfl,⟨rfl,rfl,fun _ _ h=>hx▸h⟩,trivial⟩,trivial⟩
theorem My  (h:ah 2 57 (If z k) n w v):my w v n z k:=by
 obtain ⟨p,c,rfl,hc,he⟩:=h.rw
 obtain ⟨rows,-,-,ho,-⟩:=h
 have hcap:c<=9223372036854775807:=by
  rcases ho.1.2 with ⟨h1,-⟩ | ⟨g,cap,cur,h1,-,-,-,h4,-⟩
  ·simp only [Value.slice.injEq] at h1
   omega
  ·simp only [Value.slice.injEq] at h1
   obtain ⟨-,-,rfl⟩:=h1
   simp only [maxLen] at h4;omega
 refine ⟨p,c,rfl,hc,hcap,?_⟩
 rcases Nat.eq_zero_or_pos n with h0 | h0
 ·exact .inl h0
 ·obtain ⟨b,off,rfl,-⟩:=he 0 h0
  refine .inr ⟨b,off,rfl,fun j hj=>?_⟩
  obtain ⟨b',off',hb,l,h1,h2,x,s,X,h3,h4,h5⟩:=he j hj
  simp only [Option.some.injEq,Addr.mk.injEq,and_true] at hb
  obtain ⟨rfl,rfl⟩:=hb
  obtain rfl:l = [.bool x,s]:=by simpa using h3
  exact ⟨x,s,X,h2 0 _ rfl,h2 1 _ rfl,h4,h5⟩
theorem Mz (hp:∀w v,Φ p w v->ah 2 57 (If z k) n w v) (hx:Φ x=Nw (bi z n:Int) k) (hk:k<=1000000:=by omega):aj Φ prog ⟨89,[.fact p],[⟨iS,[(0,0,x)]⟩],false⟩:=
 fW fun _ _ _ h0=>((An (My (hp _ _ (get h0))) hk).mono fun _ _ h=>h.got).mono fun _ _ h=>jE hx h
end
def MA (zz:Nat->Nat->Int) (ln:Nat->Nat) (n k:Nat):List WP:=[Rw 1 (bS zz ln k) n,ah 2 57 (If (ae (cu zz ln n)) k) ((cu zz ln n).length),Nw (bi (ae (cu zz ln n)) ((cu zz ln n).length):Int) k]
def MB:List Step:=[.base ⟨90,[0],[oS 1],false⟩,.base ⟨89,[1],[oI 2],false⟩]
def MC:List Out:=[oS 0]
theorem MD {zz:Nat->Nat->Int}{ln:Nat->Nat} (hn:n<=1000) (hk:k<=100000) (hs:∀j,j<=n->(cu zz ln j).length<=1000000):aj (ph (MA zz ln n k)) prog ⟨63,[0],[oI 2],false⟩:=aV MC [oI 2] MB func63 (by kernel_rfl) (lB (Mx ad rfl hs) (lB (Mz ad rfl) au))
  (aK [.fact 0 (.one (.s))] ⟨Rw.Is 1 (bS zz ln k) n,trivial⟩) bg
def ef (f:Nat->Int) (c:Int) (j i:Nat):Int:=if i<j then f i / c else f i
def dvL (z:Nat->Int) (n:Nat) (c:Int):List Int:=mk (tl z n) fun i=>z i / c
section
variable {f:Nat->Int}{c:Int}{i j:Nat}
theorem ME:ef f c 0 i=f i:=if_neg (by omega)
theorem MF (h:i≠j):ef f c (j+1) i=ef f c j i:=by
 unfold ef
 split <;> split <;> first | rfl | omega
theorem Ao:ef f c j j=f j:=if_neg (by omega)
theorem MG:ef f c j j / c=ef f c (j+1) j:=by rw [Ao,ef,if_pos (by omega)]
end
theorem uI {f g:Nat->Int}:∀{n:Nat},(∀i,i<n->f i=g i)->bi f n=bi g n
 | 0,_=>rfl
 | n+1,h=>by rw [bi,bi,uI fun i hi=>h i (by omega),h n (by omega)]
theorem Aq {z:Nat->Int}:∀{n:Nat} (i:Nat),i<n->bi z n∣(z i).natAbs
 | n+1,i,hi=>by
  rw [bi]
  rcases Nat.lt_or_ge i n with h | h
  ·exact Nat.dvd_trans (Nat.gcd_dvd_left _ _) (Aq i h)
  ·obtain rfl:i=n:=by omega
   exact Nat.gcd_dvd_right _ _
theorem uJ  (i:Nat) (hi:i<n):((bi z n:Nat):Int)∣z i:=Int.ofNat_dvd_left.2 (Aq i hi)
theorem uK  (h:0<tl z n):((bi z n:Nat):Int)≠0:=fun e=>by
 have h1:=fb z n h
 have h2:=uJ (z:=z) (n:=n) (tl z n-1) (by have:=aL z n;omega)
 rw [e] at h2
 exact h1 (Int.zero_dvd.1 h2)
def ba (z:Nat->Int) (n:Nat):Int:=if dc z n<0 then -(bi z n:Int) else (bi z n:Int)
theorem nX  (i:Nat) (hi:i<n):ba z n∣z i:=by
 unfold ba
 split
 ·exact Int.neg_dvd.2 (uJ i hi)
 ·exact uJ i hi
theorem rQ  (h:0<tl z n):ba z n≠0:=by
 have:=uK h
 unfold ba
 split <;> omega
def uL (z:Nat->Int) (n k l:Nat) (c:Int) (Z:List Int):List WP:=[Rw 2 (If z k) n,Iw c l,ah 2 57 (Nf (ae Z) k) Z.length,cw Z.length,Ni ((Z.length:Nat):Int),ah 2 57 (Nf (ef (ae Z) c Z.length) k) Z.length]
def MH (k:Nat) (c:Int) (Z:List Int) (j:Nat):List WP:=[Nz j,ah 2 57 (Nf (ef (ae Z) c j) k) Z.length,fun _ _=>True,At 2,Ptr 2 (Nw ((ef (ae Z) c j) j) k),Nw ((ef (ae Z) c j) j) k,Nw (((ef (ae Z) c j) j) / c) k,At 2,Ptr 2 (Nw ((ef (ae Z) c j) j) k),fun w v=>ah 2 57 (fun ι w v=>ai w v ((ef (ae Z) c (j+1)) ι) k) Z.length w v,Nz (j+1)]
def Ar:bf:=⟨[0,1,3,4,8,9,11],[(.slot 12,.i),(.two 10 5,.s)],[(.one 0,6),(.one 1,.bB [1] 7),(.one 1,.lo 1)],[.closed (.one (.ci .i64 0)),.frm 2,.frm 0],6,[(7,5)]⟩
def As:List Step:=[bQ [6,4] oT (ak .lss),.base ⟨0,[7,6],[oP 10],.joint [1] 9 (aH 28)⟩,.base ⟨0,[10],[oI 11],.dd [1] (aI 57)⟩,.base ⟨94,[11,1],[oI 12,oL (.ci .i64 0)],true⟩,.base ⟨0,[7,6],[oP 14],.joint [1] 13 (aH 28)⟩,.base ⟨0,[7,6,.any,12],[oS 15],.put [] 1 0 13 (dR 57 (.tmp 18) (.tmp 19))⟩,bQ [6,.lit (.ci .i64 1)] [oN 16] (ak .add)]
def MI:List Step:=[bQ [6,4] oF (ak .lss)]
def MJ:List Step:=[.base ⟨93,[0],[oS 2],.cM [] 1⟩,.freed (.one (.s 4 0)) 2 3,bQ [3] [oN 4] (aC 28),.loop Ar [(As,[.frm 16,.frm 15,.frm 0])] MI]
def MK:List Out:=[oS 0,oI 1]
theorem ML {l:Nat}{c:Int}{Z:List Int} (hn:n<=1000000) (hk:k<=400000) (hl:l<=400000) (hZ:aG (mk n z)=Z) (hc:0<Z.length->c≠0) (hd:∀i,i<Z.length->c∣ae Z i):aj (ph (uL z n k l c Z)) prog ⟨66,[0,1],[oS 5],false⟩:=by
 have hZl:Z.length<=n:=by rw [<- hZ,iE];exact aL _ _
 exact aV MK [oS 5] MJ func66 (by kernel_rfl) (lB (pM (Rw.To 2 (If z k) n (fun _ _ _ _ h=>h)) rfl hZ) (cR (de (e:=57) (sz:=2) (n:=Z.length) (F:=(Nf (ae Z) k)) ad rfl) (lB (ch (n:=Z.length) underlying28 ad rfl) (bk (counted Z.length (fun j=>ph (uL z n k l c Z ++ MH k c Z j)) (fun _=>0) (fun j p hp=>bm (show p<(uL z n k l c Z).length from hp)) ⟨fun _=>rfl,fun _ _ h=>ah.to (sz:=2) (e:=57) (n:=Z.length) (F:=fun ι w v=>ai w v (ae Z ι) k) (G:=fun ι w v=>ai w v (ef (ae Z) c 0 ι) k) h fun a w v ha h=>by rw [ME];exact h,aP,trivial⟩ (fun j hj=>by
   skip
   exact ⟨(As,[.frm 16,.frm 15,.frm 0]),rfl,⟨ad,ad,aP,trivial⟩,(lB (bT ad ad) (lB (bW (i:=j) (sz:=2) (n:=Z.length) (F:=(Nf (ef (ae Z) c j) k)) underlying28 (fun _ _ h=>ah.arr h) ad rfl rfl) (lB (fe (sz:=2) (F:=Nw ((ef (ae Z) c j) j) k) ad (fun _ _ _ g h=>ai.kp h g) (fun _ _ h=>ai.is h) rfl) (lB (rR nI iI rfl (hc (by omega)) (by rw [Ao];exact hd j hj) rfl) (lB (bW (i:=j) (sz:=2) (n:=Z.length) (F:=(Nf (ef (ae Z) c j) k)) underlying28 (fun _ _ h=>ah.arr h) ad rfl rfl) (lB (fD (i:=j) (n:=Z.length) (F:=(fun ι w v=>ai w v ((ef (ae Z) c j) ι) k)) (F':=(fun ι w v=>ai w v ((ef (ae Z) c (j+1)) ι) k)) (G:=Nw (((ef (ae Z) c j) j) / c) k) (.tmp 18) (.tmp 19) ad ad ad rfl (fun _ _ h=>ai.cells h) (fun _ _ _ _ g h=>ai.kp h g) (fun _ _ _ g h=>ai.kp h g) (fun a w v ha h=>by rw [MF ha];exact h) (fun w v h=>h.eq MG) rfl) (lB (ce ad rfl) au)))))))⟩) (lB (tlF ad ad) au)
   (fun q hq w v h=>by
    simp only [Ar,List.mem_cons,List.not_mem_nil,or_false] at hq
    rcases hq with rfl
    ·exact (fun h=>h) h)) au))))
  (aK [.fact 0 (.one (.s)),.fact 1 (.agg [.b,.s])] ⟨Rw.Is 2 (If z k) n,fun _ _ h=>aE.is h,trivial⟩) bg
section
variable {Φ:PH}{p q x m l j:Nat}{c:Int}{L:List Int}{zz:Nat->Nat->Int}{ln:Nat->Nat}
theorem Au (hp:∀w v,Φ p w v->Rw 2 (If z k) n w v) (hq:∀w v,Φ q w v->aE w v c l) (hx:Φ x=Rw 2 (Nf (ae L) k) L.length) (hc:0<tl z n->c≠0) (hd:∀i,i<tl z n->c∣z i) (hL:dvL z n c=L) (hn:n<=1000000:=by omega) (hk:k<=400000:=by omega) (hl:l<=400000:=by omega):aj Φ prog ⟨66,[.fact p,.fact q],[oS x],false⟩:=by
 have hT:(aG (mk n z)).length=tl z n:=iE n z
 have hZ:∀i,i<tl z n->ae (aG (mk n z)) i=z i:=fun i hi=>by
  have:=aL z n
  rw [mz,eG,if_pos (by omega)]
 refine aW (ML (c:=c) (l:=l) (Z:=aG (mk n z)) hn hk hl rfl (by rw [hT];exact hc) (fun i hi=>by rw [hT] at hi;rw [hZ i hi];exact hd i hi)) ⟨hp,hq,trivial⟩ ⟨⟨rfl,⟨rfl,rfl,fun _ _ h=>?_⟩,trivial⟩,trivial⟩
 rw [hx,<- hL,dvL,gI,<- hT]
 exact Rw.to (sz:=2) (n:=(aG (mk n z)).length) (F:=Nf (ef (ae (aG (mk n z))) c (aG (mk n z)).length) k) (ah.rw (e:=57) h) fun i w v hi h=>h.eq (by
  rw [ef,if_pos hi,eG,if_pos hi,hZ i (hT▸hi)])
theorem Av {J:List Nat} (h0:∀w v,Φ p w v->Rw 2 (If z k) n w v) (hx:Φ x=Rw 1 (bS (fun _=>z) (fun _=>n) k) 1):aj Φ prog ⟨0,[.any,.fact p],[oS x],.fresh J (dq 59 1)⟩:=
 jF (ps:=[p]) (sz:=1) (zc:=.one .nl) underlying59 rfl (fun i q h w v hv=>by
  match i,h with
  | 0,h=>
   obtain rfl:=Option.some.inj h
   have:=gZ (h0 w v hv)
   rw [this]
   exact ⟨rfl,v,rfl,h0 w v hv⟩
  | i+1,h=>simp at h) hx
theorem MM (hp:∀w v,Φ p w v->Rw 1 (bS zz ln k) n w v) (hx:Φ x=Nw (bi (ae (cu zz ln n)) (cu zz ln n).length:Int) k) (hk:k<=100000) (hs:∀j,j<=n->(cu zz ln j).length<=1000000) (hn:n<=1000:=by omega):aj Φ prog ⟨63,[.fact p],[⟨iS,[(0,0,x)]⟩],false⟩:=
 aW (MD hn hk hs) ⟨hp,trivial⟩ ⟨⟨rfl,⟨rfl,rfl,fun _ _ h=>hx▸h⟩,trivial⟩,trivial⟩
theorem Aw (hp:∀w v,Φ p w v->Rw 1 (bS (fun _=>z) (fun _=>n) k) 1 w v) (hx:Φ x=Nw (bi z n:Int) k) (hn:n<=1000000:=by omega) (hk:k<=100000:=by omega):aj Φ prog ⟨63,[.fact p],[⟨iS,[(0,0,x)]⟩],false⟩:=by
 have e:cu (fun _=>z) (fun _=>n) 1=mk n z:=by simp [cu]
 refine MM hp (hx.trans ?_) hk (fun j hj=>?_)
 ·rw [e,gI,uI (f:=ae (mk n z)) (g:=z) fun i hi=>by rw [eG,if_pos hi]]
 ·match j,hj with
  | 0,_=>exact Nat.zero_le _
  | 1,_=>rw [e,gI];exact hn
theorem MN {y:Int} (h:ai w v y k):∃s n c,v = .agg #[.bool (decide (y<0)),.slice s n c]:=by
 obtain ⟨⟨p,c,h1,-⟩,-⟩:=h
 exact ⟨_,_,_,h1⟩
theorem AA {b:Bool} (hp:∀w v,Φ p w v->Rw 2 (If z k) n w v) (hx:Φ x=Nw (dc z n) k) (hb:decide (dc z n<0)=b) (hn:n<=1000000:=by omega) (hk:k<=500000:=by omega):aj Φ prog ⟨64,[.fact p],[⟨.agg [.lit (.cb b),.s],[(0,0,x)]⟩],false⟩:=fun X w vs hX ha=>by
 refine (kD (Φ:=Φ) (p:=p) (x:=x) hp hx hn hk rfl X w vs hX ha).mono fun e w' ⟨hg,us,he,ho⟩=>⟨hg,us,he,?_⟩
 match us,ho with
 | [u],ho=>
  refine ⟨⟨?_,ho.1.2⟩,trivial⟩
  have h:=ho.1.2 _ (List.mem_singleton.2 rfl) w' (Off.refl _ _)
  have h':Φ x w' u:=h
  rw [hx] at h'
  obtain ⟨s,n',c',rfl⟩:=MN h'
  exact ⟨[.bool (decide (dc z n<0)),.slice s n' c'],rfl,by rw [hb];rfl,⟨_,_,_,rfl⟩,trivial⟩
end
def MO (z:Nat->Int) (n k:Nat) (P:List Int):List WP:=[Rw 2 (If z k) n,Rw 1 (bS (fun _=>z) (fun _=>n) k) 1,Nw (bi z n:Int) k,Nw (dc z n) k,Rw 2 (Nf (ae P) k) P.length]
def MP:List Step:=[.base ⟨0,[.any,0],[oS 1],.fresh [] (dq 59 1)⟩,.base ⟨63,[1],[oI 2],false⟩,.base ⟨64,[0],[⟨.agg [.lit (.cb false),.s],[(0,0,3)]⟩],false⟩,.base ⟨66,[0,2],[oS 4],false⟩]
def MQ:List Out:=[oS 0]
theorem MR  (hn:n<=1000000) (hk:k<=100000) (hs:decide (dc z n<0)=false) (hP:dvL z n ((bi z n:Int))=P) (hc:0<tl z n->(bi z n:Int)≠0) (hd:∀i,i<tl z n->(bi z n:Int)∣z i):aj (ph (MO z n k P)) prog ⟨33,[0],[oI 2,oS 4],true⟩:=aV MQ [oI 2,oS 4] MP func33 (by kernel_rfl) (lB (Av (z:=z) (n:=n) (Rw.To 2 (If z k) n (fun _ _ _ _ h=>h)) rfl) (lB (Aw (z:=z) (n:=n) ad rfl) (lB (AA (b:=false) (z:=z) (n:=n) (Rw.To 2 (If z k) n (fun _ _ _ _ h=>h)) rfl (hs)) (lB (Au (z:=z) (n:=n) (Rw.To 2 (If z k) n (fun _ _ _ _ h=>h)) nI rfl (hc) (hd) (hP)) au))))
  (aK [.fact 0 (.one (.s))] ⟨Rw.Is 2 (If z k) n,trivial⟩) bg
def MS (z:Nat->Int) (n k:Nat) (P:List Int):List WP:=[Rw 2 (If z k) n,Rw 1 (bS (fun _=>z) (fun _=>n) k) 1,Nw (bi z n:Int) k,Nw (dc z n) k,Nw (-(bi z n:Int)) k,Rw 2 (Nf (ae P) k) P.length]
def MT:List Step:=[.base ⟨0,[.any,0],[oS 1],.fresh [] (dq 59 1)⟩,.base ⟨63,[1],[oI 2],false⟩,.base ⟨64,[0],[⟨.agg [.lit (.cb true),.s],[(0,0,3)]⟩],false⟩,.base ⟨65,[2],[oI 4],false⟩,.base ⟨66,[0,4],[oS 5],false⟩]
def MU:List Out:=[oS 0]
theorem MV  (hn:n<=1000000) (hk:k<=100000) (hs:decide (dc z n<0)=true) (hP:dvL z n (-(bi z n:Int))=P) (hc:0<tl z n->-(bi z n:Int)≠0) (hd:∀i,i<tl z n->-(bi z n:Int)∣z i):aj (ph (MS z n k P)) prog ⟨33,[0],[oI 4,oS 5],true⟩:=aV MU [oI 4,oS 5] MT func33 (by kernel_rfl) (lB (Av (z:=z) (n:=n) (Rw.To 2 (If z k) n (fun _ _ _ _ h=>h)) rfl) (lB (Aw (z:=z) (n:=n) ad rfl) (lB (AA (b:=true) (z:=z) (n:=n) (Rw.To 2 (If z k) n (fun _ _ _ _ h=>h)) rfl (hs)) (lB (MW nI rfl rfl) (lB (Au (z:=z) (n:=n) (Rw.To 2 (If z k) n (fun _ _ _ _ h=>h)) nI rfl (hc) (hd) (hP)) au)))))
  (aK [.fact 0 (.one (.s))] ⟨Rw.Is 2 (If z k) n,trivial⟩) bg
section
variable {Φ:PH}{p q x y m l j:Nat}{c:Int}
theorem AB (hp:∀w v,Φ p w v->Rw 2 (If z k) n w v) (hx:Φ x=Nw (ba z n) k) (hy:Φ y=Rw 2 (Nf (ae P) k) m) (hn:n<=1000000) (hP:dvL z n (ba z n)=P) (hm:P.length=m) (hk:k<=100000:=by omega):aj Φ prog ⟨33,[.fact p],[⟨iS,[(0,0,x)]⟩,oS y],true⟩:=by
 subst hm
 by_cases h:dc z n<0
 ·have e:ba z n = -(bi z n:Int):=if_pos h
  rw [e] at hP
  exact aW (MV hn hk (decide_eq_true h) hP (fun h=>e▸rQ h) (fun i hi=>e▸nX i (Nat.lt_of_lt_of_le hi (aL _ _)))) ⟨hp,trivial⟩ ⟨⟨rfl,⟨rfl,rfl,fun _ _ h=>hx▸e▸h⟩,trivial⟩,⟨rfl,⟨rfl,rfl,fun _ _ h=>hy▸h⟩,trivial⟩,trivial⟩
 ·have e:ba z n=(bi z n:Int):=if_neg h
  rw [e] at hP
  exact aW (MR hn hk (decide_eq_false h) hP (fun h=>e▸rQ h) (fun i hi=>e▸nX i (Nat.lt_of_lt_of_le hi (aL _ _)))) ⟨hp,trivial⟩ ⟨⟨rfl,⟨rfl,rfl,fun _ _ h=>hx▸e▸h⟩,trivial⟩,⟨rfl,⟨rfl,rfl,fun _ _ h=>hy▸h⟩,trivial⟩,trivial⟩
end
end Go.Proofs.YtomamliepbhegaaGreat.Sym
