/- The reference's Scale, To, Primitive (whole coefficients). -/
import Derived.Test.YtomamliepbhegaaDivC
import Derived.Test.YtomamliepbhegaaPolX
import Derived.Test.YtomamliepbhegaaRatL
set_option maxRecDepth 100000
namespace Go.Proofs.Ytomamliepbhegaa.Sym
open Go.RowKit
theorem af.fS {w:World}{v:Value}{z:Int}{k l:Nat} (h:af w v z k) (hb:Bd z.natAbs l):af w v z l:=by
 obtain ⟨p,c,h1,h2⟩:=h
 exact ⟨p,c,h1,h2.1,hb⟩
theorem am.fS {w:World}{v:Value}{q:Rat}{k l:Nat} (h:am w v q k) (h1:Bd q.num.natAbs l) (h2:Bd q.den l):am w v q l:=by
 obtain ⟨p,n,c,b,p',n',c',b',h3,h4,h5⟩:=h
 exact ⟨p,n,c,b,p',n',c',b',h3,af.fS h4 h1,af.fS h5 (by rw [Int.natAbs_natCast];exact h2)⟩
section
variable {Φ:PH}{p x:Nat}
end
def mU (q:Nat->Rat) (c:Rat) (n k l K:Nat):List WP:=[Rw 4 (Df q k) n,Dw c l,Nz n,fun w v=>aC 4 63 (fun ι w v=>am w v ((q ι*c)) K) n w v,fun w v=>Rw 4 (fun ι w v=>am w v ((q ι*c)) K) (tl (fun ι=>((q ι*c)).num) n) w v]
def yb (q:Nat->Rat) (c:Rat) (k l K:Nat) (j:Nat):List WP:=[Nz j,fun w v=>aC 4 63 (fun ι w v=>am w v ((q ι*c)) K) j w v,fun _ _=>True,Ptr 4 (Dw (q j) k),Dw (q j) k,Dw ((q j)*c) (2*(k+l)+2),fun w v=>af w v (((q j)*c).num) (2*(k+l)+2),fun w v=>af w v (((q j)*c).den:Int) (2*(k+l)+2),fun w v=>aC 4 63 (fun ι w v=>am w v ((q ι*c)) K) (j+1) w v,Nz (j+1)]
def qQ:bf:=⟨[0,1,3,4,7,8],[(.slot 9,.i),(.slot 5,.s)],[(.one 0,5),(.one 1,.bT [1] 6),(.one 1,.lo 1)],[.closed (.one (.ci .i64 0)),.closed (.one (.nl)),.frm 0],5,[(6,3)]⟩
def qR:List Step:=[bQ [.fact 5,.fact 2] oT (ai .lss),
   bQ [.fact 0,.fact 5] [oP 8] (aI 36),
   bQ [.fact 8] [oQ 9] (aL 63),
   .base ⟨60,[.fact 9,.fact 1],[⟨.agg [.s,.b,.s,.b],[(0,0,10),(0,2,11),(2,2,12)]⟩],false⟩,
   .base ⟨0,[.fact 6,.row 4 [10]],[oS 13],.loose [] 1 0 (cf 36 36)⟩,
   bQ [.fact 5,.lit (.ci .i64 1)] [oN 14] (ai .add)]
def yc:List Step:=[bQ [.fact 5,.fact 2] oF (ai .lss)]
def yd:List Step:=[bQ [.fact 0] [oN 2] (aD 36),
   .loop qQ [(qR,[.frm 14,.frm 13,.frm 0])] yc,
   .base ⟨49,[.fact 3],[oS 4],.df [1] false⟩]
def ye:List Out:=[oS 0,oQ 1]
theorem yf {q:Nat->Rat}{c:Rat}{n k l K:Nat} (hn:n<=1000000) (hk:k<=8000) (hl:l<=8000) (hK:K<=400000) (hB:∀i,i<n->Bd (q i*c).num.natAbs K∧Bd (q i*c).den K):aj (ph (mU q c n k l K)) Try.prog ⟨61,[.fact 0,.fact 1],[oS 4],false⟩:=by
 skip
 exact aR ye [oS 4] yd Try.func61 (by kernel_rfl)
  (lB (aG (F:=(Df q k)) Try.underlying36 aa rfl)
   (bI (counted n (fun j=>ph (mU q c n k l K ++ yb q c k l K j)) (fun _=>0) (fun j p hp=>bJ (show p<(mU q c n k l K).length from hp)) ⟨fun _=>rfl,fun w=>aC.nil 4 63 (fun ι w v=>am w v ((q ι*c)) K) w,aW,trivial⟩ (fun j hj=>by
   skip
   exact ⟨(qR,[.frm 14,.frm 13,.frm 0]),rfl,⟨aa,aa,aW,trivial⟩,(lB (bm aa aa)
   (lB (bc (i:=j) (F:=(Df q k)) Try.underlying36 (by kernel_rfl) aa aa (by omega) rfl)
   (lB (cw (sz:=4) (F:=Dw (q j) k) (by kernel_rfl) (by kernel_rfl) aa (fun _ _ _ g h=>am.kp h g) (fun _ _ h=>am.is h) rfl)
   (lB (qT tS tS rfl rfl rfl (by omega) rfl)
   (lB (kZ (n:=j) (F:=(fun ι w v=>am w v ((q ι*c)) K)) (fun _ _ _ _ g h=>am.kp h g) aa (fun _ _ h=>am.fS h (hB j (by omega)).1 (hB j (by omega)).2) (fun _ _ h=>am.dX h) (by omega) rfl)
   (lB (bt aa (by omega) rfl (by omega) (by omega))
   aA))))))⟩)
   (lB (tlF aa aa)
   aA)
   (fun q hq w v h=>by
    simp only [qQ,List.mem_cons,List.not_mem_nil,or_false] at hq
    rcases hq with rfl
    ·exact (fun h=>h) h)) (lB (eA [1] (jw (q:=(fun ι=>(q ι*c))) (n:=n) (k:=K) (fun _ _ h=>aC.rw h) rfl (by omega) (by omega)))
   aA)))
  (aJ [.fact 0 (.one (.s)),.fact 1 (.agg [.s,.b,.s,.b])] ⟨Rw.Is 4 (Df q k) n,fun _ _ h=>am.is h,trivial⟩) bg
section
variable {Φ:PH}{p y x n k l K N:Nat}{q:Nat->Rat}{c:Rat}{z:Nat->Int}
theorem Na (hp:∀w v,Φ p w v->Rw 4 (Df q k) n w v) (hy:∀w v,Φ y w v->am w v c l) (hx:Φ x=fun w v=>Rw 4 (fun i w v=>am w v (q i*c) K) N w v) (hn:n<=1000000) (hk:k<=8000) (hl:l<=8000) (hK:K<=400000) (hB:∀i,i<n->Bd (q i*c).num.natAbs K∧Bd (q i*c).den K) (hN:tl (fun i=>(q i*c).num) n=N):aj Φ Try.prog ⟨61,[.fact p,.fact y],[oS x],false⟩:=
 aT (yf (q:=q) (c:=c) hn hk hl hK hB) ⟨hp,hy,trivial⟩ ⟨⟨rfl,⟨rfl,rfl,fun _ _ h=>hx▸hN▸h⟩,trivial⟩,trivial⟩
end
def yg  : List WP:=[Dw (aN 0 1) 6,fun w v=>af w v ((aN 0 1).num) 6,fun w v=>af w v ((aN 0 1).den:Int) 6]
def yh:List Step:=[.base ⟨52,[.lit (.ci .i64 0),.lit (.ci .i64 1)],[⟨.agg [.s,.b,.s,.b],[(0,0,0),(0,2,1),(2,2,2)]⟩],false⟩]
def yi:List Out:=[]
theorem yj   : aj (ph (yg )) Try.prog ⟨58,[],[⟨.agg [.s,.b,.s,.b],[(0,0,0),(0,2,1),(2,2,2)]⟩],false⟩:=by
 skip
 exact aR yi [⟨.agg [.s,.b,.s,.b],[(0,0,0),(0,2,1),(2,2,2)]⟩] yh Try.func58 (by kernel_rfl)
  (lB (qN (z:=0) (y:=1) rfl rfl rfl (by decide) (by decide) (by decide) (by decide) rfl)
   aA)
  (aJ [] trivial) bg
theorem qI {Φ:PH}{x x1 x2:Nat} (hx:Φ x=Dw (aN 0 1) 6) (hx1:Φ x1=fun w v=>af w v (aN 0 1).num 6) (hx2:Φ x2=fun w v=>af w v ((aN 0 1).den:Int) 6):aj Φ Try.prog ⟨58,[],[⟨sS,[(0,0,x),(0,2,x1),(2,2,x2)]⟩],false⟩:=
 aT yj trivial ⟨⟨rfl,⟨rfl,rfl,fun _ _ h=>hx▸h⟩,⟨rfl,rfl,fun _ _ h=>hx1▸h⟩,⟨rfl,rfl,fun _ _ h=>hx2▸h⟩,trivial⟩,trivial⟩
section
variable {Φ:PH}{p q y x x1 x2 n m k l K N:Nat}{c:Int}{z:Nat->Int}{a:Bool}{xs:List Nat}
theorem jv {k:Nat} (h:1<=k):Bd 1 k:=Nat.one_lt_pow (by omega) (by omega)
theorem mS {f:Nat->Int}:∀{n:Nat},(0<n->f (n-1)≠0)->tl f n=n
 | 0,_=>rfl
 | n+1,h=>by
  unfold tl
  rw [if_neg (show ¬f n=0 from h (by omega))]
end
end Go.Proofs.Ytomamliepbhegaa.Sym
