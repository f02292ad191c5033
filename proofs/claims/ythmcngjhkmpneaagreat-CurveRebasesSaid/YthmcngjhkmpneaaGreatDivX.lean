/- The reference's Scale, To, Primitive (whole coefficients). -/
import Derived.Test.YthmcngjhkmpneaaGreatDivC
import Derived.Test.YthmcngjhkmpneaaGreatPolX
import Derived.Test.YthmcngjhkmpneaaGreatRatL
set_option maxRecDepth 100000
namespace Go.Proofs.YthmcngjhkmpneaaGreat.Sym
open Go.RowKit
theorem ae.fD {w:World}{v:Value}{z:Int}{k l:Nat} (h:ae w v z k) (hb:Bd z.natAbs l):ae w v z l:=by
 obtain ⟨p,c,h1,h2⟩:=h
 exact ⟨p,c,h1,h2.1,hb⟩
theorem ah.fD {w:World}{v:Value}{q:Rat}{k l:Nat} (h:ah w v q k) (h1:Bd q.num.natAbs l) (h2:Bd q.den l):ah w v q l:=by
 obtain ⟨p,n,c,b,p',n',c',b',h3,h4,h5⟩:=h
 exact ⟨p,n,c,b,p',n',c',b',h3,ae.fD h4 h1,ae.fD h5 (by rw [Int.natAbs_natCast];exact h2)⟩
section
variable {Φ:PH}{p x:Nat}
end
def pF (q:Nat->Rat) (c:Rat) (n k l K:Nat):List WP:=[Rw 4 (Df q k) n,Dw c l,Nz n,fun w v=>am 4 44 (fun ι w v=>ah w v ((q ι*c)) K) n w v,fun w v=>Rw 4 (fun ι w v=>ah w v ((q ι*c)) K) (tl (fun ι=>((q ι*c)).num) n) w v]
def DK (q:Nat->Rat) (c:Rat) (k l K:Nat) (j:Nat):List WP:=[Nz j,fun w v=>am 4 44 (fun ι w v=>ah w v ((q ι*c)) K) j w v,fun _ _=>True,Ptr 4 (Dw (q j) k),Dw (q j) k,Dw ((q j)*c) (2*(k+l)+2),fun w v=>ae w v (((q j)*c).num) (2*(k+l)+2),fun w v=>ae w v (((q j)*c).den:Int) (2*(k+l)+2),fun w v=>am 4 44 (fun ι w v=>ah w v ((q ι*c)) K) (j+1) w v,Nz (j+1)]
def uE:bj:=⟨[0,1,3,4,7,8],[(.slot 9,.i),(.slot 5,.s)],[(.one 0,5),(.one 1,.bZ [1] 6),(.one 1,.lo 1)],[.closed (.one (.ci .i64 0)),.closed (.one (.nl)),.frm 0],5,[(6,3)]⟩
def uF:List Step:=[bQ [.fact 5,.fact 2] oT (au .lss),
   bQ [.fact 0,.fact 5] [oP 8] (aO 24),
   bQ [.fact 8] [oQ 9] (aS 44),
   .base ⟨52,[.fact 9,.fact 1],[⟨.agg [.s,.b,.s,.b],[(0,0,10),(0,2,11),(2,2,12)]⟩],false⟩,
   .base ⟨0,[.fact 6,.row 4 [10]],[oS 13],.loose [] 1 0 (cU 24 24)⟩,
   bQ [.fact 5,.lit (.ci .i64 1)] [oN 14] (au .add)]
def DL:List Step:=[bQ [.fact 5,.fact 2] oF (au .lss)]
def DM:List Step:=[bQ [.fact 0] [oN 2] (aI 24),
   .loop uE [(uF,[.frm 14,.frm 13,.frm 0])] DL,
   .base ⟨53,[.fact 3],[oS 4],.c9 [1] false⟩]
def DN:List Out:=[oS 0,oQ 1]
theorem DO {q:Nat->Rat}{c:Rat}{n k l K:Nat} (hn:n<=1000000) (hk:k<=8000) (hl:l<=8000) (hK:K<=400000) (hB:∀i,i<n->Bd (q i*c).num.natAbs K∧Bd (q i*c).den K):ai (ph (pF q c n k l K)) Tryz.prog ⟨50,[.fact 0,.fact 1],[oS 4],false⟩:=by
 skip
 exact bg DN [oS 4] DM Tryz.func50 (by kernel_rfl)
  (lB (a9 (F:=(Df q k)) Tryz.underlying24 ad rfl)
   (bN (counted n (fun j=>ph (pF q c n k l K ++ DK q c k l K j)) (fun _=>0) (fun j p hp=>bO (show p<(pF q c n k l K).length from hp)) ⟨fun _=>rfl,fun w=>am.nil 4 44 (fun ι w v=>ah w v ((q ι*c)) K) w,bp,trivial⟩ (fun j hj=>by
   skip
   exact ⟨(uF,[.frm 14,.frm 13,.frm 0]),rfl,⟨ad,ad,bp,trivial⟩,(lB (cA ad ad)
   (lB (b6 (i:=j) (F:=(Df q k)) Tryz.underlying24 (by kernel_rfl) ad ad (by omega) rfl)
   (lB (bK (sz:=4) (F:=Dw (q j) k) (by kernel_rfl) (by kernel_rfl) ad (fun _ _ _ g h=>ah.kp h g) (fun _ _ h=>ah.is h) rfl)
   (lB (uG tS tS rfl rfl rfl (by omega) rfl)
   (lB (mB (n:=j) (F:=(fun ι w v=>ah w v ((q ι*c)) K)) (fun _ _ _ _ g h=>ah.kp h g) ad (fun _ _ h=>ah.fD h (hB j (by omega)).1 (hB j (by omega)).2) (fun _ _ h=>ah.dm h) (by omega) rfl)
   (lB (cO ad (by omega) rfl (by omega) (by omega))
   aC))))))⟩)
   (lB (tlF ad ad)
   aC)
   (fun q hq w v h=>by
    simp only [uE,List.mem_cons,List.not_mem_nil,or_false] at hq
    rcases hq with rfl
    ·exact (fun h=>h) h)) (lB (dZ [1] (kD (q:=(fun ι=>(q ι*c))) (n:=n) (k:=K) (fun _ _ h=>am.rw h) rfl (by omega) (by omega)))
   aC)))
  (aK [.fact 0 (.one (.s)),.fact 1 (.agg [.s,.b,.s,.b])] ⟨Rw.Is 4 (Df q k) n,fun _ _ h=>ah.is h,trivial⟩) bh
def pG (z:Nat->Int) (n k:Nat):List WP:=[fun w v=>Rw 4 (fun ι w v=>ah w v (((z ι:Int):Rat)) k) n w v,Nz n,am 2 51 (Nf z k) n]
def DQ (z:Nat->Int) (k:Nat) (j:Nat):List WP:=[Nz j,am 2 51 (Nf z k) j,fun _ _=>True,Ptr 4 (Dw (((z j:Int):Rat)) k),fun w v=>Ptr 2 (fun w v=>ae w v ((((z j:Int):Rat)).num) k) w v,fun w v=>ae w v ((((z j:Int):Rat)).num) k,Nw ((((z j:Int):Rat)).num) k,am 2 51 (Nf z k) (j+1),Nz (j+1)]
def uH:bj:=⟨[0,2,5,6],[(.slot 7,.i),(.slot 3,.s)],[(.one 0,3),(.one 1,.bZ [1] 4),(.one 1,.lo 1)],[.closed (.one (.ci .i64 0)),.closed (.one (.nl)),.frm 0],3,[(4,2)]⟩
def uI:List Step:=[bQ [.fact 3,.fact 1] oT (au .lss),
   bQ [.fact 0,.fact 3] [oP 6] (aO 24),
   bQ [.fact 6] [oP 7] (fC 44 0),
   bQ [.fact 7] [oD 8] (aS 42),
   .base ⟨54,[.fact 8],[oI 9],false⟩,
   .base ⟨0,[.fact 4,.row 2 [9]],[oS 10],.loose [] 1 0 (cU 28 28)⟩,
   bQ [.fact 3,.lit (.ci .i64 1)] [oN 11] (au .add)]
def DR:List Step:=[bQ [.fact 3,.fact 1] oF (au .lss)]
def DS:List Step:=[bQ [.fact 0] [oN 1] (aI 24),
   .loop uH [(uI,[.frm 11,.frm 10,.frm 0])] DR]
def DT:List Out:=[oS 0]
theorem xto {z:Nat->Int}{n k:Nat} (hn:n<=1000000) (hk:k<=400000):ai (ph (pG z n k)) Tryz.prog ⟨11,[.fact 0],[oS 2],false⟩:=by
 skip
 exact bg DT [oS 2] DS Tryz.func11 (by kernel_rfl)
  (lB (a9 (F:=(fun ι w v=>ah w v (((z ι:Int):Rat)) k)) Tryz.underlying24 ad rfl)
   (bN (counted n (fun j=>ph (pG z n k ++ DQ z k j)) (fun _=>0) (fun j p hp=>bO (show p<(pG z n k).length from hp)) ⟨fun _=>rfl,fun w=>am.nil 2 51 (Nf z k) w,bp,trivial⟩ (fun j hj=>by
   skip
   exact ⟨(uI,[.frm 11,.frm 10,.frm 0]),rfl,⟨ad,ad,bp,trivial⟩,(lB (cA ad ad)
   (lB (b6 (i:=j) (F:=(fun ι w v=>ah w v (((z ι:Int):Rat)) k)) Tryz.underlying24 (by kernel_rfl) ad ad (by omega) rfl)
   (lB (gA (off:=0) (len:=2) (sz:=4) (F:=Dw (((z j:Int):Rat)) k) (G:=fun w v=>ae w v ((((z j:Int):Rat)).num) k) (by kernel_rfl) ad (by omega) (fun _ _ h=>ah.fst' h) rfl)
   (lB (bK (sz:=2) (F:=fun w v=>ae w v ((((z j:Int):Rat)).num) k) (by kernel_rfl) (by kernel_rfl) ad (fun _ _ _ g h=>ae.kp h g) (fun _ _ h=>ae.is h) rfl)
   (lB (tTo dD rfl (by omega) rfl)
   (lB (mh (n:=j) (F:=(Nf z k)) (fun _ _ _ _ g h=>ak.kp h g) ad ad (fun _ _ h=>ak.dm h) (by omega) rfl)
   (lB (cO ad (by omega) rfl (by omega) (by omega))
   aC)))))))⟩)
   (lB (tlF ad ad)
   aC)
   (fun q hq w v h=>by
    simp only [uH,List.mem_cons,List.not_mem_nil,or_false] at hq
    rcases hq with rfl
    ·exact (fun h=>h) h)) aC))
  (aK [.fact 0 (.one (.s))] ⟨Rw.Is 4 (fun ι w v=>ah w v (((z ι:Int):Rat)) k) n,trivial⟩) bh
section
variable {Φ:PH}{p y x n k l K N:Nat}{q:Nat->Rat}{c:Rat}{z:Nat->Int}
theorem Cq (hp:∀w v,Φ p w v->Rw 4 (Df q k) n w v) (hy:∀w v,Φ y w v->ah w v c l) (hx:Φ x=fun w v=>Rw 4 (fun i w v=>ah w v (q i*c) K) N w v) (hn:n<=1000000) (hk:k<=8000) (hl:l<=8000) (hK:K<=400000) (hB:∀i,i<n->Bd (q i*c).num.natAbs K∧Bd (q i*c).den K) (hN:tl (fun i=>(q i*c).num) n=N):ai Φ Tryz.prog ⟨50,[.fact p,.fact y],[oS x],false⟩:=
 bi (DO (q:=q) (c:=c) hn hk hl hK hB) ⟨hp,hy,trivial⟩ ⟨⟨rfl,⟨rfl,rfl,fun _ _ h=>hx▸hN▸h⟩,trivial⟩,trivial⟩
theorem tV (hp:∀w v,Φ p w v->Rw 4 (fun i w v=>ah w v ((z i:Int):Rat) k) n w v) (hx:Φ x=Rw 2 (Nf z k) n) (hn:n<=1000000) (hk:k<=400000):ai Φ Tryz.prog ⟨11,[.fact p],[oS x],false⟩:=
 bi (xto (z:=z) hn hk) ⟨hp,trivial⟩ ⟨⟨rfl,⟨rfl,rfl,fun _ _ h=>hx▸am.rw (e:=51) h⟩,trivial⟩,trivial⟩
end
def DU  : List WP:=[Dw (aD 0 1) 6,fun w v=>ae w v ((aD 0 1).num) 6,fun w v=>ae w v ((aD 0 1).den:Int) 6]
def DV:List Step:=[.base ⟨38,[.lit (.ci .i64 0),.lit (.ci .i64 1)],[⟨.agg [.s,.b,.s,.b],[(0,0,0),(0,2,1),(2,2,2)]⟩],false⟩]
def DW:List Out:=[]
theorem DX   : ai (ph (DU )) Tryz.prog ⟨51,[],[⟨.agg [.s,.b,.s,.b],[(0,0,0),(0,2,1),(2,2,2)]⟩],false⟩:=by
 skip
 exact bg DW [⟨.agg [.s,.b,.s,.b],[(0,0,0),(0,2,1),(2,2,2)]⟩] DV Tryz.func51 (by kernel_rfl)
  (lB (pf (z:=0) (y:=1) rfl rfl rfl (by decide) (by decide) (by decide) (by decide) rfl)
   aC)
  (aK [] trivial) bh
theorem um {Φ:PH}{x x1 x2:Nat} (hx:Φ x=Dw (aD 0 1) 6) (hx1:Φ x1=fun w v=>ae w v (aD 0 1).num 6) (hx2:Φ x2=fun w v=>ae w v ((aD 0 1).den:Int) 6):ai Φ Tryz.prog ⟨51,[],[⟨sS,[(0,0,x),(0,2,x1),(2,2,x2)]⟩],false⟩:=
 bi DX trivial ⟨⟨rfl,⟨rfl,rfl,fun _ _ h=>hx▸h⟩,⟨rfl,rfl,fun _ _ h=>hx1▸h⟩,⟨rfl,rfl,fun _ _ h=>hx2▸h⟩,trivial⟩,trivial⟩
section
variable {Φ:PH}{p q y x x1 x2 n m k l K N:Nat}{c:Int}{z:Nat->Int}{a:Bool}{xs:List Nat}
theorem pi {k:Nat} (h:1<=k):Bd 1 k:=Nat.one_lt_pow (by omega) (by omega)
theorem pg {f:Nat->Int}:∀{n:Nat},(0<n->f (n-1)≠0)->tl f n=n
 | 0,_=>rfl
 | n+1,h=>by
  unfold tl
  rw [if_neg (show ¬f n=0 from h (by omega))]
end
end Go.Proofs.YthmcngjhkmpneaaGreat.Sym
