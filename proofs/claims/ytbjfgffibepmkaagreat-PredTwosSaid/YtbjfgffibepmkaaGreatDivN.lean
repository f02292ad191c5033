/- The reference's at, Add, -/
import Derived.Test.YtbjfgffibepmkaaGreatDivX
set_option maxRecDepth 100000
namespace Go.Proofs.YtbjfgffibepmkaaGreat.Sym
open Go.Proofs.Tryz
open Go.RowKit
variable {q r:Nat->Rat}{K N i k l m n:Nat}
def eR (n:Nat) (q:Nat->Rat) (i:Nat):Rat:=if i<n then q i else 0
theorem Jd:aW 0 1=0:=by decide +kernel
theorem Je:aW (-1) 1 = -1:=by decide +kernel
def Jf (q:Nat->Rat) (n i k:Nat):List WP:=[Rw 4 (Df q k) n,Nz i,Nz n,Ptr 4 (Dw (q i) k),Dw (q i) k]
def Jg:List Step:=[bQ [1,.lit (.ci .i64 0)] oF (au .lss),bQ [0] [oN 2] (aK 32),bQ [1,2] oF (au .geq),bQ [0,1] [oP 3] (aN 32),bQ [3] [oQ 4] (aO 63)]
def Jh:List Out:=[oS 0,oN 1]
theorem Ji  (_hn:n<=1000000) (hi:i<n):aj (ph (Jf q n i k)) prog ⟨98,[0,1],[oQ 4],false⟩:=aQ Jh [oQ 4] Jg func98 (by kernel_rfl) (lB (cB (op:=.lss) ad (cj (show decide (((i:Nat):Int)<0)=false from decide_eq_false (by omega)) (by simp))) (lB (aS (F:=(Df q k)) underlying32 ad rfl) (lB (thF ad ad) (lB (co (i:=i) (F:=(Df q k)) underlying32 ad ad rfl) (lB (cU (sz:=4) (F:=Dw (q i) k) ad (fun _ _ _ g h=>af.kp h g) (fun _ _ h=>af.is h) rfl) aD)))))
  (aM [.fact 0 (.one (.s)),.fact 1 (.one (.i))] ⟨Rw.Is 4 (Df q k) n,fun _ _ h=>h▸dc _,trivial⟩) (fun _ _ _ h=>h)
def Jj (q:Nat->Rat) (n i k:Nat):List WP:=[Rw 4 (Df q k) n,Nz i,Nz n,Dw (aW 0 1) 6,fun w v=>ai w v ((aW 0 1).num) 6,fun w v=>ai w v ((aW 0 1).den:Int) 6]
def Jk:List Step:=[bQ [1,.lit (.ci .i64 0)] oF (au .lss),bQ [0] [oN 2] (aK 32),bQ [1,2] oT (au .geq),.base ⟨89,[],[⟨.agg [.s,.b,.s,.b],[(0,0,3),(0,2,4),(2,2,5)]⟩],false⟩]
def Jl:List Out:=[oS 0,oN 1]
theorem Jm  (_hn:n<=1000000) (hi:n<=i):aj (ph (Jj q n i k)) prog ⟨98,[0,1],[oQ 3],false⟩:=aQ Jl [oQ 3] Jk func98 (by kernel_rfl) (lB (cB (op:=.lss) ad (cj (show decide (((i:Nat):Int)<0)=false from decide_eq_false (by omega)) (by simp))) (lB (aS (F:=(Df q k)) underlying32 ad rfl) (lB (Jn ad ad) (lB (yK rfl rfl rfl) aD))))
  (aM [.fact 0 (.one (.s)),.fact 1 (.one (.i))] ⟨Rw.Is 4 (Df q k) n,fun _ _ h=>h▸dc _,trivial⟩) (fun _ _ _ h=>h)
section
variable {Φ:PH}{p x y:Nat}
theorem yL (hp:∀w v,Φ p w v->Rw 4 (Df q k) n w v) (hy:∀w v,Φ y w v->v = .int .i64 (i:Int)) (hx:Φ x=Dw (eR n q i) k) (hn:n<=1000000:=by omega) (hk:1<=k:=by omega):aj Φ prog ⟨98,[.fact p,.fact y],[oQ x],false⟩:=by
 rcases Nat.lt_or_ge i n with h | h
 ·refine aT (Ji (q:=q) (n:=n) (i:=i) (k:=k) hn h) ⟨hp,hy,trivial⟩ ⟨⟨rfl,⟨rfl,rfl,fun w v h1=>?_⟩,trivial⟩,trivial⟩
  rw [hx,eR,if_pos h];exact h1
 ·refine aT (Jm (q:=q) (n:=n) (i:=i) (k:=k) hn h) ⟨hp,hy,trivial⟩ ⟨⟨rfl,⟨rfl,rfl,fun w v h1=>?_⟩,trivial⟩,trivial⟩
  rw [hx,eR,if_neg (by omega)]
  exact af.iE (af.eq h1 Jd) (Nat.pow_pos (by omega)) (gF hk)
end
def aX (q:Nat->Rat) (n:Nat) (r:Nat->Rat) (m i:Nat):Rat:=eR n q i+eR m r i
def dX (q:Nat->Rat) (n:Nat) (r:Nat->Rat) (m i:Nat):Rat:=eR n q i-eR m r i
theorem Jo :aX q n (fun i=>-(r i)) m i=dX q n r m i:=by
 unfold aX dX eR
 by_cases h:i<m
 ·simp only [if_pos h];rw [Rat.sub_eq_add_neg]
 ·simp only [if_neg h];rw [Rat.sub_eq_add_neg,Rat.neg_zero]
def tg (q r:Nat->Rat) (n m k l K:Nat):List WP:=[Rw 4 (Df q k) n,Rw 4 (Df r l) m,aC 4 63 (Df (aX q n r m) K) (max n m),Rw 4 (Df (aX q n r m) K) (tl (fun ι=>(aX q n r m ι).num) (max n m))]
def Jp (q r:Nat->Rat) (n m k l K:Nat) (j:Nat):List WP:=[Nz j,aC 4 63 (Df (aX q n r m) K) j,fun _ _=>True,Nz n,Nz m,Nz (max n m),Dw (eR n (fun ι=>q ι) j) k,Dw (eR m (fun ι=>r ι) j) l,Dw ((eR n (fun ι=>q ι) j)+(eR m (fun ι=>r ι) j)) (3*(k+l)+3),fun w v=>ai w v (((eR n (fun ι=>q ι) j)+(eR m (fun ι=>r ι) j)).num) (3*(k+l)+3),fun w v=>ai w v (((eR n (fun ι=>q ι) j)+(eR m (fun ι=>r ι) j)).den:Int) (3*(k+l)+3),aC 4 63 (Df (aX q n r m) K) (j+1),Nz (j+1),Nz n,Nz m,Nz (max n m)]
def yM:bJ:=⟨[0,1,4],[(.slot 6,.i),(.slot 5,.s)],[(.one 0,4),(.one 1,.cD [1] 5),(.one 1,.lo 1)],[.closed (.one (.ci .i64 0)),.closed (.one (.nl)),.frm 0],4,[(5,2)]⟩
def yN:List Step:=[bQ [0] [oN 7] (aK 32),bQ [1] [oN 8] (aK 32),bQ [7,8] [oN 9] (kL .max),bQ [4,9] oT (au .lss),.base ⟨98,[0,4],[oQ 10],false⟩,.base ⟨98,[1,4],[oQ 11],false⟩,.base ⟨90,[10,11],[⟨.agg [.s,.b,.s,.b],[(0,0,12),(0,2,13),(2,2,14)]⟩],false⟩,.base ⟨0,[5,.row 4 [12]],[oS 15],.loose [] 1 0 (bO 32 32)⟩,bQ [4,.lit (.ci .i64 1)] [oN 16] (au .add)]
def Jq:List Step:=[bQ [0] [oN 17] (aK 32),bQ [1] [oN 18] (aK 32),bQ [17,18] [oN 19] (kL .max),bQ [4,19] oF (au .lss)]
def Jr:List Step:=[.loop yM [(yN,[.frm 16,.frm 15,.frm 0])] Jq,.base ⟨67,[2],[oS 3],.dF [1] false⟩]
def Js:List Out:=[oS 0,oS 1]
theorem Jt  (hn:n<=1000000) (hm:m<=1000000) (hk:k<=8000) (hl:l<=8000) (hk1:1<=k) (hl1:1<=l) (hK:K<=400000) (hB:∀i,i<max n m->Bd (aX q n r m i).num.natAbs K∧Bd (aX q n r m i).den K):aj (ph (tg q r n m k l K)) prog ⟨59,[0,1],[oS 3],false⟩:=aQ Js [oS 3] Jr func59 (by kernel_rfl) (cm (counted (max n m) (fun j=>ph (tg q r n m k l K ++ Jp q r n m k l K j)) (fun _=>0) (fun j p hp=>cn (show p<(tg q r n m k l K).length from hp)) ⟨fun _=>rfl,fun w=>aC.nil 4 63 (Df (aX q n r m) K) w,bS,trivial⟩ (fun j hj=>by
   skip
   exact ⟨(yN,[.frm 16,.frm 15,.frm 0]),rfl,⟨ad,ad,bS,trivial⟩,(lB (aS (F:=(Df q k)) underlying32 ad rfl) (lB (aS (F:=(Df r l)) underlying32 ad rfl) (lB (pV ad ad (by split <;> omega) rfl) (lB (bH ad ad) (lB (yL (q:=fun ι=>q ι) (n:=n) (i:=j) ad ad rfl) (lB (yL (q:=fun ι=>r ι) (n:=m) (i:=j) ad ad rfl) (lB (yO tS tS rfl rfl rfl rfl) (lB (pW (n:=j) (F:=(Df (aX q n r m) K)) (fun _ _ _ _ g h=>af.kp h g) ad (fun _ _ h=>af.iE h (hB j (by omega)).1 (hB j (by omega)).2) (fun _ _ h=>af.eO h) rfl) (lB (ct ad rfl) aD)))))))))⟩) (lB (aS (F:=(Df q k)) underlying32 ad rfl) (lB (aS (F:=(Df r l)) underlying32 ad rfl) (lB (pV ad ad (by split <;> omega) rfl) (lB (tlF ad ad) aD))))
   (fun q hq w v h=>by
    simp only [yM,List.mem_cons,List.not_mem_nil,or_false] at hq
    rcases hq with rfl
    ·exact (fun h=>h) h)) (lB (eF [1] (nC (q:=(fun ι=>aX q n r m ι)) (n:=(max n m)) (k:=K) (fun _ _ h=>aC.rw h) rfl)) aD))
  (aM [.fact 0 (.one (.s)),.fact 1 (.one (.s))] ⟨Rw.Is 4 (Df q k) n,Rw.Is 4 (Df r l) m,trivial⟩) aV
def Ju (q:Nat->Rat) (n k K N:Nat):List WP:=[Rw 4 (Df q k) n,Dw (aW (-1) 1) 6,fun w v=>ai w v ((aW (-1) 1).num) 6,fun w v=>ai w v ((aW (-1) 1).den:Int) 6,fun w v=>Rw 4 (fun ι w v=>af w v ((q ι*(aW (-1) 1))) K) N w v]
def Jv:List Step:=[.base ⟨66,[.lit (.ci .i64 (-1)),.lit (.ci .i64 1)],[⟨.agg [.s,.b,.s,.b],[(0,0,1),(0,2,2),(2,2,3)]⟩],false⟩,.base ⟨85,[0,1],[oS 4],false⟩]
def Jw:List Out:=[oS 0]
theorem Jx  (hn:n<=1000000) (hk:k<=8000) (hB:∀i,i<n->Bd (q i*aW (-1) 1).num.natAbs K∧Bd (q i*aW (-1) 1).den K) (hN:tl (fun i=>(q i*aW (-1) 1).num) n=N) (hK:K<=400000:=by omega):aj (ph (Ju q n k K N)) prog ⟨88,[0],[oS 4],false⟩:=aQ Jw [oS 4] Jv func88 (by kernel_rfl) (lB (yP (z:=(-1)) (y:=1) rfl rfl rfl rfl) (lB (lZ (q:=fun i=>q i) (c:=(aW (-1) 1)) (n:=n) (K:=K) ad tS rfl hB hN) aD))
  (aM [.fact 0 (.one (.s))] ⟨Rw.Is 4 (Df q k) n,trivial⟩) aV
section
variable {Φ:PH}{p x y:Nat}{s:Nat->Rat}
theorem yQ (hp:∀w v,Φ p w v->Rw 4 (Df q k) n w v) (hy:∀w v,Φ y w v->Rw 4 (Df r l) m w v) (hx:Φ x=Rw 4 (Df s K) N) (hs:∀i,aX q n r m i=s i) (hB:∀i,i<max n m->Bd (s i).num.natAbs K∧Bd (s i).den K) (hN:tl (fun i=>(s i).num) (max n m)=N) (hn:n<=1000000:=by omega) (hm:m<=1000000:=by omega) (hk:k<=8000:=by omega) (hl:l<=8000:=by omega) (hk1:1<=k:=by omega) (hl1:1<=l:=by omega) (hK:K<=400000:=by omega):aj Φ prog ⟨59,[.fact p,.fact y],[oS x],false⟩:=by
 obtain rfl:aX q n r m=s:=funext hs
 exact aT (Jt (q:=q) (r:=r) hn hm hk hl hk1 hl1 hK hB) ⟨hp,hy,trivial⟩ ⟨⟨rfl,⟨rfl,rfl,fun _ _ h=>hx▸hN▸h⟩,trivial⟩,trivial⟩
theorem yR (hp:∀w v,Φ p w v->Rw 4 (Df q k) n w v) (hx:Φ x=fun w v=>Rw 4 (fun i w v=>af w v (-(q i)) k) n w v) (_:True) (hb:∀i,i<n->Bd (q i).num.natAbs k∧Bd (q i).den k) (ht:0<n->(q (n-1)).num≠0) (hn:n<=1000000:=by omega) (hk:k<=8000:=by omega):aj Φ prog ⟨88,[.fact p],[oS x],false⟩:=by
 have e:∀i,q i*aW (-1) 1 = -(q i):=fun i=>by rw [Je,Rat.mul_neg,Rat.mul_one]
 refine aT (Jx (q:=q) (n:=n) (k:=k) (K:=k) (N:=n) hn hk (fun i hi=>?_) (mc fun h=>?_)) ⟨hp,trivial⟩ ⟨⟨rfl,⟨rfl,rfl,fun w v h=>?_⟩,trivial⟩,trivial⟩
 ·rw [e,Rat.neg_num,Rat.neg_den,Int.natAbs_neg];exact hb i hi
 ·show (q (n-1)*aW (-1) 1).num≠0
  rw [e,Rat.neg_num]
  have:=ht h
  omega
 ·rw [hx]
  have h:Rw 4 (fun i w v=>af w v (q i*aW (-1) 1) k) n w v:=h
  simp only [e] at h
  exact h
end
def Jy (q r:Nat->Rat) (n m k l K N:Nat):List WP:=[Rw 4 (Df q k) n,Rw 4 (Df r l) m,fun w v=>Rw 4 (fun ι w v=>af w v ((-(r ι))) l) m w v,fun w v=>Rw 4 (fun ι w v=>af w v ((dX q n r m ι)) K) N w v]
def Jz:List Step:=[.base ⟨88,[1],[oS 2],false⟩,.base ⟨59,[0,2],[oS 3],false⟩]
def JA:List Out:=[oS 0,oS 1]
theorem JB  (hn:n<=1000000) (hm:m<=1000000) (hk:k<=8000) (hl:l<=8000) (hk1:1<=k) (hl1:1<=l) (hm1:True) (hb:∀i,i<m->Bd (r i).num.natAbs l∧Bd (r i).den l) (hmt:0<m->(r (m-1)).num≠0) (hK:K<=400000) (hB:∀i,i<max n m->Bd (dX q n r m i).num.natAbs K∧Bd (dX q n r m i).den K) (hN:tl (fun i=>(dX q n r m i).num) (max n m)=N):aj (ph (Jy q r n m k l K N)) prog ⟨51,[0,1],[oS 3],false⟩:=aQ JA [oS 3] Jz func51 (by kernel_rfl) (lB (yR (q:=fun i=>r i) (n:=m) ad rfl hm1 hb hmt) (lB (yQ (q:=q) (r:=fun i=>-(r i)) (s:=dX q n r m) (n:=n) (m:=m) (K:=K) (N:=N) ad ad rfl (fun i=>Jo) hB hN) aD))
  (aM [.fact 0 (.one (.s)),.fact 1 (.one (.s))] ⟨Rw.Is 4 (Df q k) n,Rw.Is 4 (Df r l) m,trivial⟩) aV
section
variable {Φ:PH}{p x y:Nat}
theorem JC (hp:∀w v,Φ p w v->Rw 4 (Df q k) n w v) (hy:∀w v,Φ y w v->Rw 4 (Df r l) m w v) (hx:Φ x=Rw 4 (Df (dX q n r m) K) N) (hb:∀i,i<m->Bd (r i).num.natAbs l∧Bd (r i).den l) (ht:0<m->(r (m-1)).num≠0) (hB:∀i,i<max n m->Bd (dX q n r m i).num.natAbs K∧Bd (dX q n r m i).den K) (hN:tl (fun i=>(dX q n r m i).num) (max n m)=N) (hn:n<=1000000:=by omega) (hm:m<=1000000:=by omega) (hk:k<=8000:=by omega) (hl:l<=8000:=by omega) (hk1:1<=k:=by omega) (hl1:1<=l:=by omega) (hK:K<=400000:=by omega):aj Φ prog ⟨51,[.fact p,.fact y],[oS x],false⟩:=
 aT (JB (q:=q) (r:=r) (k:=k) (l:=l) hn hm hk hl hk1 hl1 trivial hb ht hK hB hN) ⟨hp,hy,trivial⟩ ⟨⟨rfl,⟨rfl,rfl,fun _ _ h=>hx▸h⟩,trivial⟩,trivial⟩
end
section
variable {Φ:PH}{p x:Nat}
end
section
variable {Φ:PH}{p x y j:Nat}{J:List Nat}{s:Nat->Rat}
end
section
variable {Φ:PH}{p x y j:Nat}{J:List Nat}
end
end Go.Proofs.YtbjfgffibepmkaaGreat.Sym
