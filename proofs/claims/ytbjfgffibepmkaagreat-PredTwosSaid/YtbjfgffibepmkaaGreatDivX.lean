/- The reference's Scale, T -/
import Derived.Test.YtbjfgffibepmkaaGreatDivC
import Derived.Test.YtbjfgffibepmkaaGreatPolM
set_option maxRecDepth 100000
namespace Go.Proofs.YtbjfgffibepmkaaGreat.Sym
open Go.Proofs.Tryz
open Go.RowKit
variable {w:World}{v:Value}{k l n:Nat}
theorem ai.iE {z:Int}{k:Nat} (h:ai w v z k) (hb:Bd z.natAbs l):ai w v z l:=by
 obtain ⟨p,c,h1,h2⟩:=h
 exact ⟨p,c,h1,h2.1,hb⟩
theorem af.iE {q:Rat}{k:Nat} (h:af w v q k) (h1:Bd q.num.natAbs l) (h2:Bd q.den l):af w v q l:=by
 obtain ⟨p,n,c,b,p',n',c',b',h3,h4,h5⟩:=h
 exact ⟨p,n,c,b,p',n',c',b',h3,ai.iE h4 h1,ai.iE h5 (by rw [Int.natAbs_natCast];exact h2)⟩
section
variable {Φ:PH}{p x:Nat}
end
def tk (q:Nat->Rat) (c:Rat) (n k l K:Nat):List WP:=[Rw 4 (Df q k) n,Dw c l,Nz n,fun w v=>aC 4 63 (fun ι w v=>af w v ((q ι*c)) K) n w v,fun w v=>Rw 4 (fun ι w v=>af w v ((q ι*c)) K) (tl (fun ι=>((q ι*c)).num) n) w v]
def Kb (q:Nat->Rat) (c:Rat) (k l K:Nat) (j:Nat):List WP:=[Nz j,fun w v=>aC 4 63 (fun ι w v=>af w v ((q ι*c)) K) j w v,fun _ _=>True,Ptr 4 (Dw (q j) k),Dw (q j) k,Dw ((q j)*c) (2*(k+l)+2),fun w v=>ai w v (((q j)*c).num) (2*(k+l)+2),fun w v=>ai w v (((q j)*c).den:Int) (2*(k+l)+2),fun w v=>aC 4 63 (fun ι w v=>af w v ((q ι*c)) K) (j+1) w v,Nz (j+1)]
def zb:bJ:=⟨[0,1,3,4,7,8],[(.slot 9,.i),(.slot 5,.s)],[(.one 0,5),(.one 1,.cD [1] 6),(.one 1,.lo 1)],[.closed (.one (.ci .i64 0)),.closed (.one (.nl)),.frm 0],5,[(6,3)]⟩
def zd:List Step:=[bQ [5,2] oT (au .lss),bQ [0,5] [oP 8] (aN 32),bQ [8] [oQ 9] (aO 63),.base ⟨91,[9,1],[⟨.agg [.s,.b,.s,.b],[(0,0,10),(0,2,11),(2,2,12)]⟩],false⟩,.base ⟨0,[6,.row 4 [10]],[oS 13],.loose [] 1 0 (bO 32 32)⟩,bQ [5,.lit (.ci .i64 1)] [oN 14] (au .add)]
def Kc:List Step:=[bQ [5,2] oF (au .lss)]
def Kd:List Step:=[bQ [0] [oN 2] (aK 32),.loop zb [(zd,[.frm 14,.frm 13,.frm 0])] Kc,.base ⟨67,[3],[oS 4],.dF [1] false⟩]
def Ke:List Out:=[oS 0,oQ 1]
theorem Kf {q:Nat->Rat}{c:Rat}{K:Nat} (hn:n<=1000000) (hk:k<=8000) (hl:l<=8000) (hK:K<=400000) (hB:∀i,i<n->Bd (q i*c).num.natAbs K∧Bd (q i*c).den K):aj (ph (tk q c n k l K)) prog ⟨85,[0,1],[oS 4],false⟩:=aQ Ke [oS 4] Kd func85 (by kernel_rfl) (lB (aS (F:=(Df q k)) underlying32 ad rfl) (cm (counted n (fun j=>ph (tk q c n k l K ++ Kb q c k l K j)) (fun _=>0) (fun j p hp=>cn (show p<(tk q c n k l K).length from hp)) ⟨fun _=>rfl,fun w=>aC.nil 4 63 (fun ι w v=>af w v ((q ι*c)) K) w,bS,trivial⟩ (fun j hj=>by
   skip
   exact ⟨(zd,[.frm 14,.frm 13,.frm 0]),rfl,⟨ad,ad,bS,trivial⟩,(lB (bH ad ad) (lB (co (i:=j) (F:=(Df q k)) underlying32 ad ad rfl) (lB (cU (sz:=4) (F:=Dw (q j) k) ad (fun _ _ _ g h=>af.kp h g) (fun _ _ h=>af.is h) rfl) (lB (ze tS tS rfl rfl rfl rfl) (lB (pW (n:=j) (F:=(fun ι w v=>af w v ((q ι*c)) K)) (fun _ _ _ _ g h=>af.kp h g) ad (fun _ _ h=>af.iE h (hB j (by omega)).1 (hB j (by omega)).2) (fun _ _ h=>af.eO h) rfl) (lB (ct ad rfl) aD))))))⟩) (lB (tlF ad ad) aD)
   (fun q hq w v h=>by
    simp only [zb,List.mem_cons,List.not_mem_nil,or_false] at hq
    rcases hq with rfl
    ·exact (fun h=>h) h)) (lB (eF [1] (nC (q:=(fun ι=>(q ι*c))) (n:=n) (k:=K) (fun _ _ h=>aC.rw h) rfl)) aD)))
  (aM [.fact 0 (.one (.s)),.fact 1 (.agg [.s,.b,.s,.b])] ⟨Rw.Is 4 (Df q k) n,fun _ _ h=>af.is h,trivial⟩) aV
def tm (z:Nat->Int) (n k:Nat):List WP:=[fun w v=>Rw 4 (fun ι w v=>af w v (((z ι:Int):Rat)) k) n w v,Nz n,aC 2 27 (Nf z k) n]
def Kg (z:Nat->Int) (k:Nat) (j:Nat):List WP:=[Nz j,aC 2 27 (Nf z k) j,fun _ _=>True,Ptr 4 (Dw (((z j:Int):Rat)) k),fun w v=>Ptr 2 (fun w v=>ai w v ((((z j:Int):Rat)).num) k) w v,fun w v=>ai w v ((((z j:Int):Rat)).num) k,Nw ((((z j:Int):Rat)).num) k,aC 2 27 (Nf z k) (j+1),Nz (j+1)]
def zf:bJ:=⟨[0,2,5,6],[(.slot 7,.i),(.slot 3,.s)],[(.one 0,3),(.one 1,.cD [1] 4),(.one 1,.lo 1)],[.closed (.one (.ci .i64 0)),.closed (.one (.nl)),.frm 0],3,[(4,2)]⟩
def zg:List Step:=[bQ [3,1] oT (au .lss),bQ [0,3] [oP 6] (aN 32),bQ [6] [oP 7] (eS 63 0),bQ [7] [oD 8] (aO 61),.base ⟨35,[8],[oI 9],false⟩,.base ⟨0,[4,.row 2 [9]],[oS 10],.loose [] 1 0 (bO 24 24)⟩,bQ [3,.lit (.ci .i64 1)] [oN 11] (au .add)]
def Kh:List Step:=[bQ [3,1] oF (au .lss)]
def Kj:List Step:=[bQ [0] [oN 1] (aK 32),.loop zf [(zg,[.frm 11,.frm 10,.frm 0])] Kh]
def Kk:List Out:=[oS 0]
theorem xto {z:Nat->Int} (hn:n<=1000000) (hk:k<=400000):aj (ph (tm z n k)) prog ⟨131,[0],[oS 2],false⟩:=aQ Kk [oS 2] Kj func131 (by kernel_rfl) (lB (aS (F:=(fun ι w v=>af w v (((z ι:Int):Rat)) k)) underlying32 ad rfl) (cm (counted n (fun j=>ph (tm z n k ++ Kg z k j)) (fun _=>0) (fun j p hp=>cn (show p<(tm z n k).length from hp)) ⟨fun _=>rfl,fun w=>aC.nil 2 27 (Nf z k) w,bS,trivial⟩ (fun j hj=>by
   skip
   exact ⟨(zg,[.frm 11,.frm 10,.frm 0]),rfl,⟨ad,ad,bS,trivial⟩,(lB (bH ad ad) (lB (co (i:=j) (F:=(fun ι w v=>af w v (((z ι:Int):Rat)) k)) underlying32 ad ad rfl) (lB (fj (off:=0) (len:=2) (sz:=4) (F:=Dw (((z j:Int):Rat)) k) (G:=fun w v=>ai w v ((((z j:Int):Rat)).num) k) ad (fun _ _ h=>af.fst' h) rfl) (lB (cU (sz:=2) (F:=fun w v=>ai w v ((((z j:Int):Rat)).num) k) ad (fun _ _ _ g h=>ai.kp h g) (fun _ _ h=>ai.is h) rfl) (lB (tTo dD rfl rfl) (lB (nw (n:=j) (F:=(Nf z k)) (fun _ _ _ _ g h=>ak.kp h g) ad ad (fun _ _ h=>ak.eO h) rfl) (lB (ct ad rfl) aD)))))))⟩) (lB (tlF ad ad) aD)
   (fun q hq w v h=>by
    simp only [zf,List.mem_cons,List.not_mem_nil,or_false] at hq
    rcases hq with rfl
    ·exact (fun h=>h) h)) aD))
  (aM [.fact 0 (.one (.s))] ⟨Rw.Is 4 (fun ι w v=>af w v (((z ι:Int):Rat)) k) n,trivial⟩) aV
section
variable {Φ:PH}{p y x K N:Nat}{q:Nat->Rat}{c:Rat}{z:Nat->Int}
theorem lZ (hp:∀w v,Φ p w v->Rw 4 (Df q k) n w v) (hy:∀w v,Φ y w v->af w v c l) (hx:Φ x=fun w v=>Rw 4 (fun i w v=>af w v (q i*c) K) N w v) (hB:∀i,i<n->Bd (q i*c).num.natAbs K∧Bd (q i*c).den K) (hN:tl (fun i=>(q i*c).num) n=N) (hn:n<=1000000:=by omega) (hk:k<=8000:=by omega) (hl:l<=8000:=by omega) (hK:K<=400000:=by omega):aj Φ prog ⟨85,[.fact p,.fact y],[oS x],false⟩:=
 aT (Kf (q:=q) (c:=c) hn hk hl hK hB) ⟨hp,hy,trivial⟩ ⟨⟨rfl,⟨rfl,rfl,fun _ _ h=>hx▸hN▸h⟩,trivial⟩,trivial⟩
theorem zh (hp:∀w v,Φ p w v->Rw 4 (fun i w v=>af w v ((z i:Int):Rat) k) n w v) (hx:Φ x=Rw 2 (Nf z k) n) (hn:n<=1000000:=by omega) (hk:k<=400000:=by omega):aj Φ prog ⟨131,[.fact p],[oS x],false⟩:=
 aT (xto (z:=z) hn hk) ⟨hp,trivial⟩ ⟨⟨rfl,⟨rfl,rfl,fun _ _ h=>hx▸aC.rw (e:=27) h⟩,trivial⟩,trivial⟩
end
def Kl  : List WP:=[Dw (aW 0 1) 6,fun w v=>ai w v ((aW 0 1).num) 6,fun w v=>ai w v ((aW 0 1).den:Int) 6]
def Km:List Step:=[.base ⟨66,[.lit (.ci .i64 0),.lit (.ci .i64 1)],[⟨.agg [.s,.b,.s,.b],[(0,0,0),(0,2,1),(2,2,2)]⟩],false⟩]
def Kn:List Out:=[]
theorem Ko   : aj (ph (Kl )) prog ⟨89,[],[⟨.agg [.s,.b,.s,.b],[(0,0,0),(0,2,1),(2,2,2)]⟩],false⟩:=aQ Kn [⟨.agg [.s,.b,.s,.b],[(0,0,0),(0,2,1),(2,2,2)]⟩] Km func89 (by kernel_rfl) (lB (yP (z:=0) (y:=1) rfl rfl rfl rfl) aD)
  (aM [] trivial) aV
theorem yK {Φ:PH}{x x1 x2:Nat} (hx:Φ x=Dw (aW 0 1) 6) (hx1:Φ x1=fun w v=>ai w v (aW 0 1).num 6) (hx2:Φ x2=fun w v=>ai w v ((aW 0 1).den:Int) 6):aj Φ prog ⟨89,[],[⟨sS,[(0,0,x),(0,2,x1),(2,2,x2)]⟩],false⟩:=
 aT Ko trivial ⟨⟨rfl,⟨rfl,rfl,fun _ _ h=>hx▸h⟩,⟨rfl,rfl,fun _ _ h=>hx1▸h⟩,⟨rfl,rfl,fun _ _ h=>hx2▸h⟩,trivial⟩,trivial⟩
section
variable {Φ:PH}{p q y x x1 x2 m K N:Nat}{c:Int}{z:Nat->Int}{a:Bool}{xs:List Nat}
theorem gF  (h:1<=k):Bd 1 k:=Nat.one_lt_pow (by omega) (by omega)
theorem mc {f:Nat->Int}:∀{n:Nat},(0<n->f (n-1)≠0)->tl f n=n
 | 0,_=>rfl
 | n+1,h=>by
  unfold tl
  rw [if_neg (show ¬f n=0 from h (by omega))]
end
end Go.Proofs.YtbjfgffibepmkaaGreat.Sym
