/- The reference's at, Add, Neg, Sub over the rationals. The reference's cut told with the row's block; Add and Sub, whose results lie in new memory. -/
import Derived.Test.YthmcngjhkmpneaaGreatDivX
import Derived.Test.YthmcngjhkmpneaaGreatDivT
set_option maxRecDepth 100000
namespace Go.Proofs.YthmcngjhkmpneaaGreat.Sym
open Go.RowKit
def dO (n:Nat) (q:Nat->Rat) (i:Nat):Rat:=if i<n then q i else 0
theorem C2:aD 0 1=0:=by decide +kernel
def C3 (q:Nat->Rat) (n i k:Nat):List WP:=[Rw 4 (Df q k) n,Nz i,Nz n,Ptr 4 (Dw (q i) k),Dw (q i) k]
def C4:List Step:=[bQ [.fact 1,.lit (.ci .i64 0)] oF (au .lss),
   bQ [.fact 0] [oN 2] (aI 24),
   bQ [.fact 1,.fact 2] oF (au .geq),
   bQ [.fact 0,.fact 1] [oP 3] (aO 24),
   bQ [.fact 3] [oQ 4] (aS 44)]
def C5:List Out:=[oS 0,oN 1]
theorem C6 {q:Nat->Rat}{n i k:Nat} (_hn:n<=1000000) (hi:i<n):ai (ph (C3 q n i k)) Tryz.prog ⟨161,[.fact 0,.fact 1],[oQ 4],false⟩:=by
 skip
 exact bg C5 [oQ 4] C4 Tryz.func161 (by kernel_rfl)
  (lB (cn (op:=.lss) ad (cw (show decide (((i:Nat):Int)<0)=false from decide_eq_false (by omega)) (by simp)))
   (lB (a9 (F:=(Df q k)) Tryz.underlying24 ad rfl)
   (lB (thF ad ad)
   (lB (b6 (i:=i) (F:=(Df q k)) Tryz.underlying24 (by kernel_rfl) ad ad (by omega) rfl)
   (lB (bK (sz:=4) (F:=Dw (q i) k) (by kernel_rfl) (by kernel_rfl) ad (fun _ _ _ g h=>ah.kp h g) (fun _ _ h=>ah.is h) rfl)
   aC)))))
  (aK [.fact 0 (.one (.s)),.fact 1 (.one (.i))] ⟨Rw.Is 4 (Df q k) n,fun _ _ h=>h▸dl _,trivial⟩) (fun _ _ _ h=>h)
def C7 (q:Nat->Rat) (n i k:Nat):List WP:=[Rw 4 (Df q k) n,Nz i,Nz n,Dw (aD 0 1) 6,fun w v=>ae w v ((aD 0 1).num) 6,fun w v=>ae w v ((aD 0 1).den:Int) 6]
def C8:List Step:=[bQ [.fact 1,.lit (.ci .i64 0)] oF (au .lss),
   bQ [.fact 0] [oN 2] (aI 24),
   bQ [.fact 1,.fact 2] oT (au .geq),
   .base ⟨51,[],[⟨.agg [.s,.b,.s,.b],[(0,0,3),(0,2,4),(2,2,5)]⟩],false⟩]
def C9:List Out:=[oS 0,oN 1]
theorem Da {q:Nat->Rat}{n i k:Nat} (_hn:n<=1000000) (hi:n<=i):ai (ph (C7 q n i k)) Tryz.prog ⟨161,[.fact 0,.fact 1],[oQ 3],false⟩:=by
 skip
 exact bg C9 [oQ 3] C8 Tryz.func161 (by kernel_rfl)
  (lB (cn (op:=.lss) ad (cw (show decide (((i:Nat):Int)<0)=false from decide_eq_false (by omega)) (by simp)))
   (lB (a9 (F:=(Df q k)) Tryz.underlying24 ad rfl)
   (lB (ul ad ad)
   (lB (um rfl rfl rfl)
   aC))))
  (aK [.fact 0 (.one (.s)),.fact 1 (.one (.i))] ⟨Rw.Is 4 (Df q k) n,fun _ _ h=>h▸dl _,trivial⟩) (fun _ _ _ h=>h)
section
variable {Φ:PH}{p x y n i k:Nat}{q:Nat->Rat}
theorem uo (hp:∀w v,Φ p w v->Rw 4 (Df q k) n w v) (hy:∀w v,Φ y w v->v = .int .i64 (i:Int)) (hx:Φ x=Dw (dO n q i) k) (hn:n<=1000000) (hk:1<=k):ai Φ Tryz.prog ⟨161,[.fact p,.fact y],[oQ x],false⟩:=by
 rcases Nat.lt_or_ge i n with h | h
 ·refine bi (C6 (q:=q) (n:=n) (i:=i) (k:=k) hn h) ⟨hp,hy,trivial⟩ ⟨⟨rfl,⟨rfl,rfl,fun w v h1=>?_⟩,trivial⟩,trivial⟩
  rw [hx,dO,if_pos h];exact h1
 ·refine bi (Da (q:=q) (n:=n) (i:=i) (k:=k) hn h) ⟨hp,hy,trivial⟩ ⟨⟨rfl,⟨rfl,rfl,fun w v h1=>?_⟩,trivial⟩,trivial⟩
  rw [hx,dO,if_neg (by omega)]
  exact ah.fD (ah.eq h1 C2) (Nat.pow_pos (by omega)) (pi hk)
end
def aX (q:Nat->Rat) (n:Nat) (r:Nat->Rat) (m i:Nat):Rat:=dO n q i+dO m r i
def pz (q r:Nat->Rat) (n m k l K:Nat):List WP:=[Rw 4 (Df q k) n,Rw 4 (Df r l) m,am 4 44 (Df (aX q n r m) K) (max n m),Rw 4 (Df (aX q n r m) K) (tl (fun ι=>(aX q n r m ι).num) (max n m))]
def Db (q r:Nat->Rat) (n m k l K:Nat) (j:Nat):List WP:=[Nz j,am 4 44 (Df (aX q n r m) K) j,fun _ _=>True,Nz n,Nz m,Nz (max n m),Dw (dO n (fun ι=>q ι) j) k,Dw (dO m (fun ι=>r ι) j) l,Dw ((dO n (fun ι=>q ι) j)+(dO m (fun ι=>r ι) j)) (3*(k+l)+3),fun w v=>ae w v (((dO n (fun ι=>q ι) j)+(dO m (fun ι=>r ι) j)).num) (3*(k+l)+3),fun w v=>ae w v (((dO n (fun ι=>q ι) j)+(dO m (fun ι=>r ι) j)).den:Int) (3*(k+l)+3),am 4 44 (Df (aX q n r m) K) (j+1),Nz (j+1),Nz n,Nz m,Nz (max n m)]
def up:bj:=⟨[0,1,4],[(.slot 6,.i),(.slot 5,.s)],[(.one 0,4),(.one 1,.bZ [1] 5),(.one 1,.lo 1)],[.closed (.one (.ci .i64 0)),.closed (.one (.nl)),.frm 0],4,[(5,2)]⟩
def uq:List Step:=[bQ [.fact 0] [oN 7] (aI 24),
   bQ [.fact 1] [oN 8] (aI 24),
   bQ [.fact 7,.fact 8] [oN 9] (gw .max),
   bQ [.fact 4,.fact 9] oT (au .lss),
   .base ⟨161,[.fact 0,.fact 4],[oQ 10],false⟩,
   .base ⟨161,[.fact 1,.fact 4],[oQ 11],false⟩,
   .base ⟨40,[.fact 10,.fact 11],[⟨.agg [.s,.b,.s,.b],[(0,0,12),(0,2,13),(2,2,14)]⟩],false⟩,
   .base ⟨0,[.fact 5,.row 4 [12]],[oS 15],.loose [] 1 0 (cU 24 24)⟩,
   bQ [.fact 4,.lit (.ci .i64 1)] [oN 16] (au .add)]
def Dc:List Step:=[bQ [.fact 0] [oN 17] (aI 24),
   bQ [.fact 1] [oN 18] (aI 24),
   bQ [.fact 17,.fact 18] [oN 19] (gw .max),
   bQ [.fact 4,.fact 19] oF (au .lss)]
def Dd:List Step:=[.loop up [(uq,[.frm 16,.frm 15,.frm 0])] Dc,
   .base ⟨53,[.fact 2],[oS 3],.c9 [1] false⟩]
def De:List Out:=[oS 0,oS 1]
theorem Dg {q r:Nat->Rat}{n m k l K:Nat} (hn:n<=1000000) (hm:m<=1000000) (hk:k<=8000) (hl:l<=8000) (hk1:1<=k) (hl1:1<=l) (hK:K<=400000) (hB:∀i,i<max n m->Bd (aX q n r m i).num.natAbs K∧Bd (aX q n r m i).den K):ai (ph (pz q r n m k l K)) Tryz.prog ⟨123,[.fact 0,.fact 1],[oS 3],false⟩:=by
 skip
 exact bg De [oS 3] Dd Tryz.func123 (by kernel_rfl)
  (bN (counted (max n m) (fun j=>ph (pz q r n m k l K ++ Db q r n m k l K j)) (fun _=>0) (fun j p hp=>bO (show p<(pz q r n m k l K).length from hp)) ⟨fun _=>rfl,fun w=>am.nil 4 44 (Df (aX q n r m) K) w,bp,trivial⟩ (fun j hj=>by
   skip
   exact ⟨(uq,[.frm 16,.frm 15,.frm 0]),rfl,⟨ad,ad,bp,trivial⟩,(lB (a9 (F:=(Df q k)) Tryz.underlying24 ad rfl)
   (lB (a9 (F:=(Df r l)) Tryz.underlying24 ad rfl)
   (lB (oY ad ad (by split <;> omega) rfl)
   (lB (cA ad ad)
   (lB (uo (q:=fun ι=>q ι) (n:=n) (i:=j) ad ad rfl (by omega) (by omega))
   (lB (uo (q:=fun ι=>r ι) (n:=m) (i:=j) ad ad rfl (by omega) (by omega))
   (lB (ur tS tS rfl rfl rfl (by omega) rfl)
   (lB (mB (n:=j) (F:=(Df (aX q n r m) K)) (fun _ _ _ _ g h=>ah.kp h g) ad (fun _ _ h=>ah.fD h (hB j (by omega)).1 (hB j (by omega)).2) (fun _ _ h=>ah.dm h) (by omega) rfl)
   (lB (cO ad (by omega) rfl (by omega) (by omega))
   aC)))))))))⟩)
   (lB (a9 (F:=(Df q k)) Tryz.underlying24 ad rfl)
   (lB (a9 (F:=(Df r l)) Tryz.underlying24 ad rfl)
   (lB (oY ad ad (by split <;> omega) rfl)
   (lB (tlF ad ad)
   aC))))
   (fun q hq w v h=>by
    simp only [up,List.mem_cons,List.not_mem_nil,or_false] at hq
    rcases hq with rfl
    ·exact (fun h=>h) h)) (lB (dZ [1] (kD (q:=(fun ι=>aX q n r m ι)) (n:=(max n m)) (k:=K) (fun _ _ h=>am.rw h) rfl (by omega) (by omega)))
   aC))
  (aK [.fact 0 (.one (.s)),.fact 1 (.one (.s))] ⟨Rw.Is 4 (Df q k) n,Rw.Is 4 (Df r l) m,trivial⟩) bh
section
variable {Φ:PH}{p x y n m k l K N:Nat}{q r s:Nat->Rat}
theorem Cj (hp:∀w v,Φ p w v->Rw 4 (Df q k) n w v) (hy:∀w v,Φ y w v->Rw 4 (Df r l) m w v) (hx:Φ x=Rw 4 (Df s K) N) (hn:n<=1000000) (hm:m<=1000000) (hk:k<=8000) (hl:l<=8000) (hk1:1<=k) (hl1:1<=l) (hK:K<=400000) (hs:∀i,aX q n r m i=s i) (hB:∀i,i<max n m->Bd (s i).num.natAbs K∧Bd (s i).den K) (hN:tl (fun i=>(s i).num) (max n m)=N):ai Φ Tryz.prog ⟨123,[.fact p,.fact y],[oS x],false⟩:=by
 obtain rfl:aX q n r m=s:=funext hs
 exact bi (Dg (q:=q) (r:=r) hn hm hk hl hk1 hl1 hK hB) ⟨hp,hy,trivial⟩ ⟨⟨rfl,⟨rfl,rfl,fun _ _ h=>hx▸hN▸h⟩,trivial⟩,trivial⟩
end
section
variable {Φ:PH}{p x y n m k l K N:Nat}{q r:Nat->Rat}
end
section
variable {Φ:PH}{p x n k:Nat}{q:Nat->Rat}
end
section
variable {Φ:PH}{p x y n m k l K N j:Nat}{J:List Nat}{q r s:Nat->Rat}
end
section
variable {Φ:PH}{p x y n m k l K N j:Nat}{J:List Nat}{q r:Nat->Rat}
end
end Go.Proofs.YthmcngjhkmpneaaGreat.Sym
