/- The reference's at, Add, Neg, Sub over the rationals. The reference's cut told with the row's block; Add and Sub, whose results lie in new memory. -/
import Derived.Test.YtomamliepbhegaaDivX
import Derived.Test.YtomamliepbhegaaDivT
set_option maxRecDepth 100000
namespace Go.Proofs.Ytomamliepbhegaa.Sym
open Go.RowKit
def dK (n:Nat) (q:Nat->Rat) (i:Nat):Rat:=if i<n then q i else 0
theorem xJ:aN 0 1=0:=by decide +kernel
theorem xK:aN (-1) 1 = -1:=by decide +kernel
def xL (q:Nat->Rat) (n i k:Nat):List WP:=[Rw 4 (Df q k) n,Nz i,Nz n,Ptr 4 (Dw (q i) k),Dw (q i) k]
def xM:List Step:=[bQ [.fact 1,.lit (.ci .i64 0)] oF (ai .lss),
   bQ [.fact 0] [oN 2] (aD 36),
   bQ [.fact 1,.fact 2] oF (ai .geq),
   bQ [.fact 0,.fact 1] [oP 3] (aI 36),
   bQ [.fact 3] [oQ 4] (aL 63)]
def xN:List Out:=[oS 0,oN 1]
theorem xO {q:Nat->Rat}{n i k:Nat} (_hn:n<=1000000) (hi:i<n):aj (ph (xL q n i k)) Try.prog ⟨62,[.fact 0,.fact 1],[oQ 4],false⟩:=by
 skip
 exact aR xN [oQ 4] xM Try.func62 (by kernel_rfl)
  (lB (bi (op:=.lss) aa (aS (show decide (((i:Nat):Int)<0)=false from decide_eq_false (by omega)) (by simp)))
   (lB (aG (F:=(Df q k)) Try.underlying36 aa rfl)
   (lB (thF aa aa)
   (lB (bc (i:=i) (F:=(Df q k)) Try.underlying36 (by kernel_rfl) aa aa (by omega) rfl)
   (lB (cw (sz:=4) (F:=Dw (q i) k) (by kernel_rfl) (by kernel_rfl) aa (fun _ _ _ g h=>am.kp h g) (fun _ _ h=>am.is h) rfl)
   aA)))))
  (aJ [.fact 0 (.one (.s)),.fact 1 (.one (.i))] ⟨Rw.Is 4 (Df q k) n,fun _ _ h=>h▸aQ _,trivial⟩) (fun _ _ _ h=>h)
def xP (q:Nat->Rat) (n i k:Nat):List WP:=[Rw 4 (Df q k) n,Nz i,Nz n,Dw (aN 0 1) 6,fun w v=>af w v ((aN 0 1).num) 6,fun w v=>af w v ((aN 0 1).den:Int) 6]
def xQ:List Step:=[bQ [.fact 1,.lit (.ci .i64 0)] oF (ai .lss),
   bQ [.fact 0] [oN 2] (aD 36),
   bQ [.fact 1,.fact 2] oT (ai .geq),
   .base ⟨58,[],[⟨.agg [.s,.b,.s,.b],[(0,0,3),(0,2,4),(2,2,5)]⟩],false⟩]
def xR:List Out:=[oS 0,oN 1]
theorem xT {q:Nat->Rat}{n i k:Nat} (_hn:n<=1000000) (hi:n<=i):aj (ph (xP q n i k)) Try.prog ⟨62,[.fact 0,.fact 1],[oQ 3],false⟩:=by
 skip
 exact aR xR [oQ 3] xQ Try.func62 (by kernel_rfl)
  (lB (bi (op:=.lss) aa (aS (show decide (((i:Nat):Int)<0)=false from decide_eq_false (by omega)) (by simp)))
   (lB (aG (F:=(Df q k)) Try.underlying36 aa rfl)
   (lB (kY aa aa)
   (lB (qI rfl rfl rfl)
   aA))))
  (aJ [.fact 0 (.one (.s)),.fact 1 (.one (.i))] ⟨Rw.Is 4 (Df q k) n,fun _ _ h=>h▸aQ _,trivial⟩) (fun _ _ _ h=>h)
section
variable {Φ:PH}{p x y n i k:Nat}{q:Nat->Rat}
theorem qJ (hp:∀w v,Φ p w v->Rw 4 (Df q k) n w v) (hy:∀w v,Φ y w v->v = .int .i64 (i:Int)) (hx:Φ x=Dw (dK n q i) k) (hn:n<=1000000) (hk:1<=k):aj Φ Try.prog ⟨62,[.fact p,.fact y],[oQ x],false⟩:=by
 rcases Nat.lt_or_ge i n with h | h
 ·refine aT (xO (q:=q) (n:=n) (i:=i) (k:=k) hn h) ⟨hp,hy,trivial⟩ ⟨⟨rfl,⟨rfl,rfl,fun w v h1=>?_⟩,trivial⟩,trivial⟩
  rw [hx,dK,if_pos h];exact h1
 ·refine aT (xT (q:=q) (n:=n) (i:=i) (k:=k) hn h) ⟨hp,hy,trivial⟩ ⟨⟨rfl,⟨rfl,rfl,fun w v h1=>?_⟩,trivial⟩,trivial⟩
  rw [hx,dK,if_neg (by omega)]
  exact am.fS (am.eq h1 xJ) (Nat.pow_pos (by omega)) (jv hk)
end
def aX (q:Nat->Rat) (n:Nat) (r:Nat->Rat) (m i:Nat):Rat:=dK n q i+dK m r i
def mR (q r:Nat->Rat) (n m k l K:Nat):List WP:=[Rw 4 (Df q k) n,Rw 4 (Df r l) m,aC 4 63 (Df (aX q n r m) K) (max n m),Rw 4 (Df (aX q n r m) K) (tl (fun ι=>(aX q n r m ι).num) (max n m))]
def xU (q r:Nat->Rat) (n m k l K:Nat) (j:Nat):List WP:=[Nz j,aC 4 63 (Df (aX q n r m) K) j,fun _ _=>True,Nz n,Nz m,Nz (max n m),Dw (dK n (fun ι=>q ι) j) k,Dw (dK m (fun ι=>r ι) j) l,Dw ((dK n (fun ι=>q ι) j)+(dK m (fun ι=>r ι) j)) (3*(k+l)+3),fun w v=>af w v (((dK n (fun ι=>q ι) j)+(dK m (fun ι=>r ι) j)).num) (3*(k+l)+3),fun w v=>af w v (((dK n (fun ι=>q ι) j)+(dK m (fun ι=>r ι) j)).den:Int) (3*(k+l)+3),aC 4 63 (Df (aX q n r m) K) (j+1),Nz (j+1),Nz n,Nz m,Nz (max n m)]
def qK:bf:=⟨[0,1,4],[(.slot 6,.i),(.slot 5,.s)],[(.one 0,4),(.one 1,.bT [1] 5),(.one 1,.lo 1)],[.closed (.one (.ci .i64 0)),.closed (.one (.nl)),.frm 0],4,[(5,2)]⟩
def qL:List Step:=[bQ [.fact 0] [oN 7] (aD 36),
   bQ [.fact 1] [oN 8] (aD 36),
   bQ [.fact 7,.fact 8] [oN 9] (ef .max),
   bQ [.fact 4,.fact 9] oT (ai .lss),
   .base ⟨62,[.fact 0,.fact 4],[oQ 10],false⟩,
   .base ⟨62,[.fact 1,.fact 4],[oQ 11],false⟩,
   .base ⟨59,[.fact 10,.fact 11],[⟨.agg [.s,.b,.s,.b],[(0,0,12),(0,2,13),(2,2,14)]⟩],false⟩,
   .base ⟨0,[.fact 5,.row 4 [12]],[oS 15],.loose [] 1 0 (cf 36 36)⟩,
   bQ [.fact 4,.lit (.ci .i64 1)] [oN 16] (ai .add)]
def xV:List Step:=[bQ [.fact 0] [oN 17] (aD 36),
   bQ [.fact 1] [oN 18] (aD 36),
   bQ [.fact 17,.fact 18] [oN 19] (ef .max),
   bQ [.fact 4,.fact 19] oF (ai .lss)]
def xW:List Step:=[.loop qK [(qL,[.frm 16,.frm 15,.frm 0])] xV,
   .base ⟨49,[.fact 2],[oS 3],.df [1] false⟩]
def xX:List Out:=[oS 0,oS 1]
theorem xY {q r:Nat->Rat}{n m k l K:Nat} (hn:n<=1000000) (hm:m<=1000000) (hk:k<=8000) (hl:l<=8000) (hk1:1<=k) (hl1:1<=l) (hK:K<=400000) (hB:∀i,i<max n m->Bd (aX q n r m i).num.natAbs K∧Bd (aX q n r m i).den K):aj (ph (mR q r n m k l K)) Try.prog ⟨34,[.fact 0,.fact 1],[oS 3],false⟩:=by
 skip
 exact aR xX [oS 3] xW Try.func34 (by kernel_rfl)
  (bI (counted (max n m) (fun j=>ph (mR q r n m k l K ++ xU q r n m k l K j)) (fun _=>0) (fun j p hp=>bJ (show p<(mR q r n m k l K).length from hp)) ⟨fun _=>rfl,fun w=>aC.nil 4 63 (Df (aX q n r m) K) w,aW,trivial⟩ (fun j hj=>by
   skip
   exact ⟨(qL,[.frm 16,.frm 15,.frm 0]),rfl,⟨aa,aa,aW,trivial⟩,(lB (aG (F:=(Df q k)) Try.underlying36 aa rfl)
   (lB (aG (F:=(Df r l)) Try.underlying36 aa rfl)
   (lB (iD aa aa (by split <;> omega) rfl)
   (lB (bm aa aa)
   (lB (qJ (q:=fun ι=>q ι) (n:=n) (i:=j) aa aa rfl (by omega) (by omega))
   (lB (qJ (q:=fun ι=>r ι) (n:=m) (i:=j) aa aa rfl (by omega) (by omega))
   (lB (qM tS tS rfl rfl rfl (by omega) rfl)
   (lB (kZ (n:=j) (F:=(Df (aX q n r m) K)) (fun _ _ _ _ g h=>am.kp h g) aa (fun _ _ h=>am.fS h (hB j (by omega)).1 (hB j (by omega)).2) (fun _ _ h=>am.dX h) (by omega) rfl)
   (lB (bt aa (by omega) rfl (by omega) (by omega))
   aA)))))))))⟩)
   (lB (aG (F:=(Df q k)) Try.underlying36 aa rfl)
   (lB (aG (F:=(Df r l)) Try.underlying36 aa rfl)
   (lB (iD aa aa (by split <;> omega) rfl)
   (lB (tlF aa aa)
   aA))))
   (fun q hq w v h=>by
    simp only [qK,List.mem_cons,List.not_mem_nil,or_false] at hq
    rcases hq with rfl
    ·exact (fun h=>h) h)) (lB (eA [1] (jw (q:=(fun ι=>aX q n r m ι)) (n:=(max n m)) (k:=K) (fun _ _ h=>aC.rw h) rfl (by omega) (by omega)))
   aA))
  (aJ [.fact 0 (.one (.s)),.fact 1 (.one (.s))] ⟨Rw.Is 4 (Df q k) n,Rw.Is 4 (Df r l) m,trivial⟩) bg
def xZ (q:Nat->Rat) (n k K N:Nat):List WP:=[Rw 4 (Df q k) n,Dw (aN (-1) 1) 6,fun w v=>af w v ((aN (-1) 1).num) 6,fun w v=>af w v ((aN (-1) 1).den:Int) 6,fun w v=>Rw 4 (fun ι w v=>am w v ((q ι*(aN (-1) 1))) K) N w v]
def MW:List Step:=[.base ⟨52,[.lit (.ci .i64 (-1)),.lit (.ci .i64 1)],[⟨.agg [.s,.b,.s,.b],[(0,0,1),(0,2,2),(2,2,3)]⟩],false⟩,
   .base ⟨61,[.fact 0,.fact 1],[oS 4],false⟩]
def MX:List Out:=[oS 0]
theorem MZ {q:Nat->Rat}{n k K N:Nat} (hn:n<=1000000) (hk:k<=8000) (hK:K<=400000) (hB:∀i,i<n->Bd (q i*aN (-1) 1).num.natAbs K∧Bd (q i*aN (-1) 1).den K) (hN:tl (fun i=>(q i*aN (-1) 1).num) n=N):aj (ph (xZ q n k K N)) Try.prog ⟨33,[.fact 0],[oS 4],false⟩:=by
 skip
 exact aR MX [oS 4] MW Try.func33 (by kernel_rfl)
  (lB (qN (z:=(-1)) (y:=1) rfl rfl rfl (by decide) (by decide) (by decide) (by decide) rfl)
   (lB (Na (q:=fun i=>q i) (c:=(aN (-1) 1)) (n:=n) (K:=K) aa tS rfl (by omega) (by omega) (by omega) (by omega) hB hN)
   aA))
  (aJ [.fact 0 (.one (.s))] ⟨Rw.Is 4 (Df q k) n,trivial⟩) bg
section
variable {Φ:PH}{p x y n m k l K N:Nat}{q r s:Nat->Rat}
theorem Nb (hp:∀w v,Φ p w v->Rw 4 (Df q k) n w v) (hy:∀w v,Φ y w v->Rw 4 (Df r l) m w v) (hx:Φ x=Rw 4 (Df s K) N) (hn:n<=1000000) (hm:m<=1000000) (hk:k<=8000) (hl:l<=8000) (hk1:1<=k) (hl1:1<=l) (hK:K<=400000) (hs:∀i,aX q n r m i=s i) (hB:∀i,i<max n m->Bd (s i).num.natAbs K∧Bd (s i).den K) (hN:tl (fun i=>(s i).num) (max n m)=N):aj Φ Try.prog ⟨34,[.fact p,.fact y],[oS x],false⟩:=by
 obtain rfl:aX q n r m=s:=funext hs
 exact aT (xY (q:=q) (r:=r) hn hm hk hl hk1 hl1 hK hB) ⟨hp,hy,trivial⟩ ⟨⟨rfl,⟨rfl,rfl,fun _ _ h=>hx▸hN▸h⟩,trivial⟩,trivial⟩
theorem Nc (hp:∀w v,Φ p w v->Rw 4 (Df q k) n w v) (hx:Φ x=fun w v=>Rw 4 (fun i w v=>am w v (-(q i)) k) n w v) (hn:n<=1000000) (hk:k<=8000) (_:True) (hb:∀i,i<n->Bd (q i).num.natAbs k∧Bd (q i).den k) (ht:0<n->(q (n-1)).num≠0):aj Φ Try.prog ⟨33,[.fact p],[oS x],false⟩:=by
 have e:∀i,q i*aN (-1) 1 = -(q i):=fun i=>by rw [xK,Rat.mul_neg,Rat.mul_one]
 refine aT (MZ (q:=q) (n:=n) (k:=k) (K:=k) (N:=n) hn hk (by omega) (fun i hi=>?_) (mS fun h=>?_)) ⟨hp,trivial⟩ ⟨⟨rfl,⟨rfl,rfl,fun w v h=>?_⟩,trivial⟩,trivial⟩
 ·rw [e,Rat.neg_num,Rat.neg_den,Int.natAbs_neg];exact hb i hi
 ·show (q (n-1)*aN (-1) 1).num≠0
  rw [e,Rat.neg_num]
  have:=ht h
  omega
 ·rw [hx]
  have h:Rw 4 (fun i w v=>am w v (q i*aN (-1) 1) k) n w v:=h
  simp only [e] at h
  exact h
end
section
variable {Φ:PH}{p x y n m k l K N:Nat}{q r:Nat->Rat}
end
section
variable {Φ:PH}{p x n k:Nat}{q:Nat->Rat}
end
section
variable {Φ:PH}{p x y n m k l K N j:Nat}{J:List Nat}{q r s:Nat->Rat}
end
section
variable {Φ:PH}{p x y n m k l K N j:Nat}{J:List Nat}{q r:Nat->Rat}
end
end Go.Proofs.Ytomamliepbhegaa.Sym
