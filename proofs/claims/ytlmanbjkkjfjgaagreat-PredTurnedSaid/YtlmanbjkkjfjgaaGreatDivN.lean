/- The reference's Scale, T -/
import Derived.Test.YtlmanbjkkjfjgaaGreatCurP
set_option maxRecDepth 100000
namespace Go.Proofs.YtlmanbjkkjfjgaaGreat.Sym
open Go.Proofs.Tryz
open Go.RowKit
variable {w:World}{v:Value}{z:Nat->Int}{K N c0 i k l m n n0:Nat}{q r:Nat->Rat}{b:Bool}{t u:Rat}{s0:Option Addr}
theorem ai.dm {z:Int}{k:Nat} (h:ai w v z k) (hb:Bd z.natAbs l):ai w v z l:=by obtain ⟨p,c,h1,h2⟩:=h;exact ⟨p,c,h1,h2.1,hb⟩
theorem ah.dm {q:Rat}{k:Nat} (h:ah w v q k) (h1:Bd q.num.natAbs l) (h2:Bd q.den l):ah w v q l:=by obtain ⟨p,n,c,b,p',n',c',b',h3,h4,h5⟩:=h;exact ⟨p,n,c,b,p',n',c',b',h3,ai.dm h4 h1,ai.dm h5 (by rw [Int.natAbs_natCast];exact h2)⟩
theorem CX:Bd (Int.natAbs 1) 2:=by show Int.natAbs 1<4294967296 ^ 2;decide
theorem ai.sO (w:World) (k:Nat):ai w (.agg #[.slice none 0 0,.bool false]) 0 k:=by refine ⟨none,0,by simp [an,gU],?_,by show (0:Int).natAbs<_;exact Nat.pow_pos (by omega)⟩;simpa [an,gU] using Sl.nil w .i64
theorem ai.sP {z:Int} (hs:decide (z<0)=b){l:List Value} (h:ai w (.agg l.toArray) z k):Value.agg ((l.drop 1).take 1).toArray = .agg #[.bool b]:=by
 obtain ⟨p,c,e,-⟩:=h;simp only [Value.agg.injEq] at e;have:l = [.slice p (an 10000 z.natAbs).length c,.bool (decide (z<0))]:=by simpa using e
 rw [this,hs];rfl
section
variable {Φ:PH}{p x:Nat}
theorem sQ {P:Program}{T:TypeId} (hp:∀w v,Φ p w v->Ptr 1 (λ_ v=>v = .agg #[.bool b]) w v) (hT:gV P T=some false:=by kernel_rfl):aj Φ P ⟨0,[.fact p],[oL (.cb b)],.quiet (aQ T)⟩:=λX w ac o xs _ hm ha=>by
 unfold aQ at hm;split at hm
 case h_2=>cases hm
 rename_i t y ho;split at hm
 case isFalse=>cases hm
 rename_i ht;subst ht;simp only [Option.some.injEq] at hm;subst hm;obtain ⟨b',off,hv,l,h1,h2,h3⟩:=hp _ _ (ha.1 w (Off.refl _ _));obtain rfl:l = [.bool b]:=by simpa using h3
 have hc:=h2 0 _ rfl;refine ⟨.bool b,w,?_,bH w none,⟨⟨⟨rfl,λ_ h=>by cases h⟩,λ_ hr=>by cases hr⟩,trivial⟩⟩;rw [Nat.add_zero] at hc;unfold execOp;simp [ho,hv,Instr.loadAt,Instr.sureAddr,loadVar,gW hT,hc]
end
def wO (q:Nat->Rat) (c:Rat) (n k l K:Nat):List WP:=[Rw 4 (Df q k) n,Dw c l,Nz n,λw v=>aA 4 57 (λι w v=>ah w v ((q ι*c)) K) n w v,λw v=>Rw 4 (λι w v=>ah w v ((q ι*c)) K) (tl (λι=>((q ι*c)).num) n) w v]
def QD (q:Nat->Rat) (c:Rat) (k l K:Nat) (j:Nat):List WP:=[Nz j,λw v=>aA 4 57 (λι w v=>ah w v ((q ι*c)) K) j w v,λ_ _=>True,Ptr 4 (Dw (q j) k),Dw (q j) k,Dw ((q j)*c) (2*(k+l)+2),Jw (((q j)*c).num) (2*(k+l)+2),Jw (((q j)*c).den:Int) (2*(k+l)+2),λw v=>aA 4 57 (λι w v=>ah w v ((q ι*c)) K) (j+1) w v,Nz (j+1)]
def CY:bp:=⟨[0,1,3,4,7,8],[(.slot 9,.i),(.slot 5,.s)],[(.one 0,5),(.one 1,.cM [1] 6),(.one 1,.lo 1)],[.closed (.one (Ai 0)),.closed (.one (.nl)),.frm 0],5,[(6,3)]⟩
def CZ:List Step:=[bQ [5,2] oT (am .lss),bQ [0,5] [oP 8] (adK 38),bQ [8] [oQ 9] (aQ 57),
   cB 95 [9,1] [⟨.agg [.s,.b,.s,.b],[(0,0,10),(0,2,11),(2,2,12)]⟩],.base ⟨0,[6,.row 4 [10]],[oS 13],.loose [] 1 0 (cA 38 38)⟩,bQ [5,.lit (Ai 1)] [oN 14] (am .add)]
def QE:List Step:=[bQ [5,2] oF (am .lss)]
def QF:List Step:=[bQ [0] [oN 2] (aC 38),.loop CY [(CZ,[.frm 14,.frm 13,.frm 0])] QE,.base ⟨42,[3],[oS 4],.dR [1] false⟩]
def QG:List Out:=[oS 0,oQ 1]
theorem QH {c:Rat} (hn:n<=1000000) (hk:k<=8000) (hl:l<=8000) (hK:K<=400000) (hB:∀i,i<n->Bd (q i*c).num.natAbs K∧Bd (q i*c).den K):aj (ph (wO q c n k l K)) prog ⟨82,[0,1],[oS 4],false⟩:=adL QG [oS 4] QF func82 (by kernel_rfl) (lB (aM (F:=(Df q k)) underlying38 ad rfl) (bN (counted n (λj=>ph (wO q c n k l K ++ QD q c k l K j)) (λ_=>0) (λ_ p hp=>bO (show p<(wO q c n k l K).length from hp)) ⟨λ_=>rfl,λw=>aA.nil 4 57 (λι w v=>ah w v ((q ι*c)) K) w,bI,trivial⟩ (λj _=>by
   skip
   exact ⟨(CZ,[.frm 14,.frm 13,.frm 0]),rfl,⟨ad,ad,bI,trivial⟩,(lB (bK ad ad) (lB (bw (i:=j) (F:=(Df q k)) underlying38 ad ad rfl) (lB (bT (sz:=4) (F:=Dw (q j) k) ad (λ_ _ _ g h=>ah.kp h g) (λ_ _ h=>ah.is h) rfl) (lB (wP tS tS rfl rfl rfl rfl) (lB (mJ (n:=j) (F:=(λι w v=>ah w v ((q ι*c)) K)) (λ_ _ _ _ g h=>ah.kp h g) ad (λ_ _ h=>ah.dm h (hB j (by omega)).1 (hB j (by omega)).2) (λ_ _ h=>ah.dQ h) rfl) (lB (ch ad rfl) au))))))⟩) (lB (tlF ad ad) au)
   (poC (λ_ _ h=>(λh=>h) h) poN)) (lB (eS [1] (mV (q:=(λι=>(q ι*c))) (n:=n) (k:=K) (λ_ _ h=>aA.rw h) rfl)) au)))
  (aP [.fact 0 (.one (.s)),.fact 1 (.agg [.s,.b,.s,.b])] ⟨Rw.Is 4 (Df q k) n,λ_ _ h=>ah.is h,trivial⟩) aV
def wQ (z:Nat->Int) (n k:Nat):List WP:=[Rw 4 (Zf z k) n,Nz n,aA 2 28 (Nf z k) n]
def QI (z:Nat->Int) (k:Nat) (j:Nat):List WP:=[Nz j,aA 2 28 (Nf z k) j,λ_ _=>True,Ptr 4 (Dw (((z j:Int):Rat)) k),Ptr 2 (Jw ((((z j:Int):Rat)).num) k),Jw ((((z j:Int):Rat)).num) k,Nw ((((z j:Int):Rat)).num) k,aA 2 28 (Nf z k) (j+1),Nz (j+1)]
def Da:bp:=⟨[0,2,5,6],[(.slot 7,.i),(.slot 3,.s)],[(.one 0,3),(.one 1,.cM [1] 4),(.one 1,.lo 1)],[.closed (.one (Ai 0)),.closed (.one (.nl)),.frm 0],3,[(4,2)]⟩
def Db:List Step:=[bQ [3,1] oT (am .lss),bQ [0,3] [oP 6] (adK 38),bQ [6] [oP 7] (ce 57 0),bQ [7] [oD 8] (aQ 55),
   cB 25 [8] [oI 9],.base ⟨0,[4,.row 2 [9]],[oS 10],.loose [] 1 0 (cA 25 25)⟩,bQ [3,.lit (Ai 1)] [oN 11] (am .add)]
def QJ:List Step:=[bQ [3,1] oF (am .lss)]
def QK:List Step:=[bQ [0] [oN 1] (aC 38),.loop Da [(Db,[.frm 11,.frm 10,.frm 0])] QJ]
def QM:List Out:=[oS 0]
theorem xto  (hn:n<=1000000) (hk:k<=400000):aj (ph (wQ z n k)) prog ⟨123,[0],[oS 2],false⟩:=adL QM [oS 2] QK func123 (by kernel_rfl) (lB (aM (F:=(Zf z k)) underlying38 ad rfl) (bN (counted n (λj=>ph (wQ z n k ++ QI z k j)) (λ_=>0) (λ_ p hp=>bO (show p<(wQ z n k).length from hp)) ⟨λ_=>rfl,λw=>aA.nil 2 28 (Nf z k) w,bI,trivial⟩ (λj _=>by
   skip
   exact ⟨(Db,[.frm 11,.frm 10,.frm 0]),rfl,⟨ad,ad,bI,trivial⟩,(lB (bK ad ad) (lB (bw (i:=j) (F:=(Zf z k)) underlying38 ad ad rfl) (lB (cf (off:=0) (len:=2) (sz:=4) (F:=Dw (((z j:Int):Rat)) k) (G:=Jw ((((z j:Int):Rat)).num) k) ad (λ_ _ h=>ah.fst' h) rfl) (lB (bT (sz:=2) (F:=Jw ((((z j:Int):Rat)).num) k) ad (λ_ _ _ g h=>ai.kp h g) (λ_ _ h=>ai.is h) rfl) (lB (tTo dD rfl rfl) (lB (km (n:=j) (F:=(Nf z k)) (λ_ _ _ _ g h=>ak.kp h g) ad ad (λ_ _ h=>ak.dQ h) rfl) (lB (ch ad rfl) au)))))))⟩) (lB (tlF ad ad) au)
   (poC (λ_ _ h=>(λh=>h) h) poN)) au))
  (aP [.fact 0 (.one (.s))] ⟨Rw.Is 4 (Zf z k) n,trivial⟩) aV
section
variable {Φ:PH}{p y x:Nat}{c:Rat}
theorem jk (hp:Im Φ p (Rw 4 (Df q k) n)) (hy:Im Φ y (Dw c l)) (hx:Φ x=λw v=>Rw 4 (λi w v=>ah w v (q i*c) K) N w v) (hB:∀i,i<n->Bd (q i*c).num.natAbs K∧Bd (q i*c).den K) (hN:tl (λi=>(q i*c).num) n=N) (hn:n<=1000000:=by omega) (hk:k<=8000:=by omega) (hl:l<=8000:=by omega) (hK:K<=400000:=by omega):aj Φ prog ⟨82,[.fact p,.fact y],[oS x],false⟩:=
 aU (QH (q:=q) (c:=c) hn hk hl hK hB) ⟨hp,hy,trivial⟩ ⟨⟨rfl,⟨rfl,rfl,λ_ _ h=>hx▸hN▸h⟩,trivial⟩,trivial⟩
theorem Dc (hp:Im Φ p (Rw 4 (Zf z k) n)) (hx:Φ x=Rw 2 (Nf z k) n) (hn:n<=1000000:=by omega) (hk:k<=400000:=by omega):aj Φ prog ⟨123,[.fact p],[oS x],false⟩:=
 aU (xto (z:=z) hn hk) ⟨hp,trivial⟩ ⟨⟨rfl,⟨rfl,rfl,λ_ _ h=>hx▸aA.rw (e:=28) h⟩,trivial⟩,trivial⟩
end
def QN  : List WP:=[Dw (aH 0 1) 6,Jw ((aH 0 1).num) 6,Jw ((aH 0 1).den:Int) 6]
def QO:List Step:=[cB 41 [.lit (Ai 0),.lit (Ai 1)] [⟨.agg [.s,.b,.s,.b],[(0,0,0),(0,2,1),(2,2,2)]⟩]]
def QP:List Out:=[]
theorem QQ   : aj (ph (QN )) prog ⟨150,[],[⟨.agg [.s,.b,.s,.b],[(0,0,0),(0,2,1),(2,2,2)]⟩],false⟩:=adL QP [⟨.agg [.s,.b,.s,.b],[(0,0,0),(0,2,1),(2,2,2)]⟩] QO func150 (by kernel_rfl) (lB (oz (z:=0) (y:=1) rfl rfl rfl rfl) au)
  (aP [] trivial) aV
theorem qj {Φ:PH}{x x1 x2:Nat} (hx:Φ x=Dw (aH 0 1) 6) (hx1:Φ x1=Jw (aH 0 1).num 6) (hx2:Φ x2=Jw ((aH 0 1).den:Int) 6):aj Φ prog ⟨150,[],[⟨sS,[(0,0,x),(0,2,x1),(2,2,x2)]⟩],false⟩:=
 aU QQ trivial ⟨⟨rfl,⟨rfl,rfl,λ_ _ h=>hx▸h⟩,⟨rfl,rfl,λ_ _ h=>hx1▸h⟩,⟨rfl,rfl,λ_ _ h=>hx2▸h⟩,trivial⟩,trivial⟩
def QR (z:Nat->Int) (n k:Nat):List WP:=[Rw 4 (Zf z k) n,Nz n,Dw (aH 0 1) 6,Jw ((aH 0 1).num) 6,Jw ((aH 0 1).den:Int) 6]
def QS:List Step:=[bQ [0] [oN 1] (aC 38),bQ [1,.lit (Ai 0)] oT (am .eql),
   cB 150 [] [⟨.agg [.s,.b,.s,.b],[(0,0,2),(0,2,3),(2,2,4)]⟩]]
def QT:List Out:=[oS 0]
theorem Dd  (hn0:n=0):aj (ph (QR z n k)) prog ⟨128,[0],[⟨.agg [.s,.b,.s,.b],[(0,0,2),(0,2,3),(2,2,4)]⟩,⟨.one (.lit (.nl)),[]⟩],true⟩:=adL QT [⟨.agg [.s,.b,.s,.b],[(0,0,2),(0,2,3),(2,2,4)]⟩,⟨.one (.lit (.nl)),[]⟩] QS func128 (by kernel_rfl) (lB (aM (F:=(Zf z k)) underlying38 ad rfl) (lB (qo ad) (lB (qj rfl rfl rfl) au)))
  (aP [.fact 0 (.one (.s))] ⟨Rw.Is 4 (Zf z k) n,trivial⟩) aV
def qp (z:Nat->Int) (n k K N:Nat) (t u:Rat):List WP:=[Rw 4 (Zf z k) n,Nz n,Jw (1:Int) 2,Nz n,Jw (1:Int) 2,Nz n,Jw (aT z n:Int) k,Dw t (k+2+2),Jw t.num (k+2+2),Jw (t.den:Int) (k+2+2),Nz n,Nz (n-1),Ptr 4 (Dw (((z (n-1):Int):Rat)) k),Ptr 2 (Jw ((((z (n-1):Int):Rat)).num) k),λw v=>Ptr 1 (λ_ v=>v = .agg #[.bool false]) w v,Dw (aH 1 1) 6,Jw ((aH 1 1).num) 6,Jw ((aH 1 1).den:Int) 6,Dw u (2*(6+(k+2+2))+2),Jw u.num (2*(6+(k+2+2))+2),Jw (u.den:Int) (2*(6+(k+2+2))+2),λw v=>Rw 4 (λι w v=>ah w v ((((z ι:Int):Rat)*u)) K) N w v]
def QU (z:Nat->Int) (k:Nat) (i:Nat):List WP:=[Nz i,Jw (aT z i:Int) k,Ptr 4 (Dw (((z i:Int):Rat)) k),Ptr 2 (Jw ((((z i:Int):Rat)).num) k),Jw ((((z i:Int):Rat)).num) k,Jw (((((z i:Int):Rat)).num)*(1:Int)) (k+2),Ptr 4 (Dw (((z i:Int):Rat)) k),Ptr 2 (Jw ((((z i:Int):Rat)).den:Int) k),Jw ((((z i:Int):Rat)).den:Int) k,Jw (z i) (k+2),Jw (Int.gcd (aT z i:Int) (z i):Int) (k+2),Nz (i+1)]
def De:bp:=⟨[0,2,3,4,6,9,10,11,13,14,15,16,17,35,36],[(.slot 37,.i),(.cell 14 0,.s),(.cell 14 1,.b)],[(.one 0,22),(.agg [1,2],23)],[.closed (.one (Ai 0)),.closed (.agg [.nl,.cb false])],22,[(23,6)]⟩
def Dg:List Step:=[bQ [22,5] oT (am .lss),bQ [0,22] [oP 24] (adK 38),bQ [24] [oP 25] (ce 57 0),bQ [25] [oD 26] (aQ 55),
   cB 26 [26,4] [oD 27],bQ [0,22] [oP 28] (adK 38),bQ [28] [oP 29] (ce 57 1),bQ [29] [oD 30] (aQ 55),
   cB 85 [27,30] [oD 31],
   cB 84 [23,31] [oD 32],bQ [22,.lit (Ai 1)] [oN 33] (am .add)]
def QW:List Step:=[bQ [22,5] oF (am .lss)]
def QX (z:Nat->Int) (k:Nat) (j:Nat):List WP:=[Nz j,Jw (1:Int) 2,Ptr 4 (Dw (((z j:Int):Rat)) k),Ptr 2 (Jw ((((z j:Int):Rat)).den:Int) k),Jw ((((z j:Int):Rat)).den:Int) k,Jw ((1:Int)*((((z j:Int):Rat)).den:Int)) (2+k),Ptr 4 (Dw (((z j:Int):Rat)) k),Ptr 2 (Jw ((((z j:Int):Rat)).den:Int) k),Jw ((((z j:Int):Rat)).den:Int) k,Jw (Int.gcd (1:Int) ((((z j:Int):Rat)).den:Int):Int) (k+2),Jw (1:Int) (2+k),Nz (j+1)]
def Dh:bp:=⟨[0,2,3,4,9,10,11,13,14,15],[(.slot 16,.i),(.cell 7 0,.s),(.cell 7 1,.b)],[(.one 0,22),(.agg [1,2],23)],[.closed (.one (Ai 0)),.frm 2],22,[(23,4)]⟩
def Di:List Step:=[bQ [22,3] oT (am .lss),bQ [0,22] [oP 24] (adK 38),bQ [24] [oP 25] (ce 57 1),bQ [25] [oD 26] (aQ 55),
   cB 26 [23,26] [oD 27],bQ [0,22] [oP 28] (adK 38),bQ [28] [oP 29] (ce 57 1),bQ [29] [oD 30] (aQ 55),
   cB 84 [23,30] [oD 31],
   cB 85 [27,31] [oD 32],bQ [22,.lit (Ai 1)] [oN 33] (am .add)]
def QY:List Step:=[bQ [22,3] oF (am .lss)]
def QZ:List Step:=[bQ [0] [oN 1] (aC 38),bQ [1,.lit (Ai 0)] oF (am .eql),
   cB 24 [.lit (Ai 1)] [oD 2],bQ [0] [oN 3] (aC 38),.loop Dh [(Di,[.frm 33,.frm 32])] QY,bQ [0] [oN 5] (aC 38),.loop De [(Dg,[.frm 33,.frm 32])] QW,
   cB 53 [6,4] [⟨.agg [.s,.b,.s,.b],[(0,0,7),(0,2,8),(2,2,9)]⟩],bQ [0] [oN 10] (aC 38),bQ [10,.lit (Ai 1)] [oN 11] (am .sub),bQ [0,11] [oP 12] (adK 38),bQ [12] [oP 13] (ce 57 0),bQ [13] [oP 14] (ce 55 1),bQ [14] oF (aQ 4),
   cB 41 [.lit (Ai 1),.lit (Ai 1)] [⟨.agg [.s,.b,.s,.b],[(0,0,15),(0,2,16),(2,2,17)]⟩],
   cB 152 [15,7] [⟨.agg [.s,.b,.s,.b],[(0,0,18),(0,2,19),(2,2,20)]⟩],
   cB 82 [0,18] [oS 21]]
def Rb:List Out:=[oS 0]
theorem Rc  (hn0:0<n) (hn:n<=1000000) (hk:k<=3000) (hK:K<=400000) (hs:decide (z (n-1)<0)=false) (hg:∀i,i<=n->Bd (aT z i) k) (ht:(aH (aT z n:Int) 1)=t) (ht0:t≠0) (hu:aH 1 1 / t=u) (hB:∀i,i<n->Bd (((z i:Int):Rat)*u).num.natAbs K∧Bd (((z i:Int):Rat)*u).den K) (hN:tl (λi=>(((z i:Int):Rat)*u).num) n=N):aj (ph (qp z n k K N t u)) prog ⟨128,[0],[⟨.agg [.s,.b,.s,.b],[(0,0,7),(0,2,8),(2,2,9)]⟩,oS 21],true⟩:=adL Rb [⟨.agg [.s,.b,.s,.b],[(0,0,7),(0,2,8),(2,2,9)]⟩,oS 21] QZ func128 (by kernel_rfl) (lB (aM (F:=(Zf z k)) underlying38 ad rfl) (lB (iL ad) (lB (fP (z:=1) rfl rfl) (lB (aM (F:=(Zf z k)) underlying38 ad rfl) (bN (counted n (λj=>ph (qp z n k K N t u ++ QX z k j)) (λ_=>0) (λ_ p hp=>bO (show p<(qp z n k K N t u).length from hp)) ⟨λ_=>rfl,ad,trivial⟩ (λj _=>by
   skip
   exact ⟨(Di,[.frm 33,.frm 32]),rfl,⟨ad,λ_ _ h=>ai.dm h CX,trivial⟩,(lB (bK ad ad) (lB (bw (i:=j) (F:=(Zf z k)) underlying38 ad ad rfl) (lB (cf (off:=2) (len:=2) (sz:=4) (F:=Dw (((z j:Int):Rat)) k) (G:=Jw ((((z j:Int):Rat)).den:Int) k) ad (λ_ _ h=>ah.snd' h) rfl) (lB (bT (sz:=2) (F:=Jw ((((z j:Int):Rat)).den:Int) k) ad (λ_ _ _ g h=>ai.kp h g) (λ_ _ h=>ai.is h) rfl) (lB (dE dD dD rfl rfl) (lB (bw (i:=j) (F:=(Zf z k)) underlying38 ad ad rfl) (lB (cf (off:=2) (len:=2) (sz:=4) (F:=Dw (((z j:Int):Rat)) k) (G:=Jw ((((z j:Int):Rat)).den:Int) k) ad (λ_ _ h=>ah.snd' h) rfl) (lB (bT (sz:=2) (F:=Jw ((((z j:Int):Rat)).den:Int) k) ad (λ_ _ _ g h=>ai.kp h g) (λ_ _ h=>ai.is h) rfl) (lB (ik (k+2) dD dD rfl rfl) (lB (gi dD dD rfl (by show ((Int.gcd 1 1:Nat):Int)≠0;decide) (by show ((Int.gcd 1 1:Nat):Int)∣1*1;decide) (by show (1*1:Int) / ((Int.gcd 1 1:Nat):Int)=1;decide)) (lB (ch ad rfl) au)))))))))))⟩) (lB (tlF ad ad) au)
   (poC (λ_ _ h=>(λh=>h) h) poN)) (lB (aM (F:=(Zf z k)) underlying38 ad rfl) (bN (counted n (λi=>ph (qp z n k K N t u ++ QU z k i)) (λ_=>0) (λ_ p hp=>bO (show p<(qp z n k K N t u).length from hp)) ⟨λ_=>rfl,λw=>ai.sO w k,trivial⟩ (λi _=>by
   skip
   exact ⟨(Dg,[.frm 33,.frm 32]),rfl,⟨ad,λ_ _ h=>ai.dm h (hg (i+1) (by omega)),trivial⟩,(lB (bK ad ad) (lB (bw (i:=i) (F:=(Zf z k)) underlying38 ad ad rfl) (lB (cf (off:=0) (len:=2) (sz:=4) (F:=Dw (((z i:Int):Rat)) k) (G:=Jw ((((z i:Int):Rat)).num) k) ad (λ_ _ h=>ah.fst' h) rfl) (lB (bT (sz:=2) (F:=Jw ((((z i:Int):Rat)).num) k) ad (λ_ _ _ g h=>ai.kp h g) (λ_ _ h=>ai.is h) rfl) (lB (dE dD dD rfl rfl) (lB (bw (i:=i) (F:=(Zf z k)) underlying38 ad ad rfl) (lB (cf (off:=2) (len:=2) (sz:=4) (F:=Dw (((z i:Int):Rat)) k) (G:=Jw ((((z i:Int):Rat)).den:Int) k) ad (λ_ _ h=>ah.snd' h) rfl) (lB (bT (sz:=2) (F:=Jw ((((z i:Int):Rat)).den:Int) k) ad (λ_ _ _ g h=>ai.kp h g) (λ_ _ h=>ai.is h) rfl) (lB (gi dD dD rfl (by show ((1:Nat):Int)≠0;decide) (by show ((1:Nat):Int)∣z i*1;exact Int.one_dvd _) (by show z i*1 / ((1:Nat):Int)=z i;rw [Int.mul_one];exact Int.ediv_one _)) (lB (ik (k+2) dD dD rfl rfl) (lB (ch ad rfl) au)))))))))))⟩) (lB (tlF ad ad) au)
   (poC (λ_ _ h=>(λh=>h) h) poN)) (lB (gv dD dD rfl rfl rfl (ht)) (lB (aM (F:=(Zf z k)) underlying38 ad rfl) (lB (cO ad rfl) (lB (bw (i:=(n-1)) (F:=(Zf z k)) underlying38 ad ad rfl) (lB (cf (off:=0) (len:=2) (sz:=4) (F:=Dw (((z (n-1):Int):Rat)) k) (G:=Jw ((((z (n-1):Int):Rat)).num) k) ad (λ_ _ h=>ah.fst' h) rfl) (lB (cf (off:=1) (len:=1) (sz:=2) (F:=Jw ((((z (n-1):Int):Rat)).num) k) (G:=λ_ v=>v = .agg #[.bool false]) ad (λ_ _ h=>ai.sP hs h) rfl) (lB (sQ ad) (lB (oz (z:=1) (y:=1) rfl rfl rfl rfl) (lB (qk tS tS rfl rfl rfl (ht0) (hu)) (lB (jk (q:=(λi=>((z i:Int):Rat))) (c:=u) (n:=n) (K:=K) ad tS rfl hB hN) au)))))))))))))))))
  (aP [.fact 0 (.one (.s))] ⟨Rw.Is 4 (Zf z k) n,trivial⟩) aV
def qq (z:Nat->Int) (n k K N:Nat) (t u:Rat):List WP:=[Rw 4 (Zf z k) n,Nz n,Jw (1:Int) 2,Nz n,Jw (1:Int) 2,Nz n,Jw (aT z n:Int) k,Dw (aH (aT z n:Int) 1) (k+2+2),Jw ((aH (aT z n:Int) 1).num) (k+2+2),Jw ((aH (aT z n:Int) 1).den:Int) (k+2+2),Nz n,Nz (n-1),Ptr 4 (Dw (((z (n-1):Int):Rat)) k),Ptr 2 (Jw ((((z (n-1):Int):Rat)).num) k),λw v=>Ptr 1 (λ_ v=>v = .agg #[.bool true]) w v,Dw t (k+2+2),Jw t.num (k+2+2),Jw (t.den:Int) (k+2+2),Dw (aH 1 1) 6,Jw ((aH 1 1).num) 6,Jw ((aH 1 1).den:Int) 6,Dw u (2*(6+(k+2+2))+2),Jw u.num (2*(6+(k+2+2))+2),Jw (u.den:Int) (2*(6+(k+2+2))+2),λw v=>Rw 4 (λι w v=>ah w v ((((z ι:Int):Rat)*u)) K) N w v]
def Rd (z:Nat->Int) (k:Nat) (i:Nat):List WP:=[Nz i,Jw (aT z i:Int) k,Ptr 4 (Dw (((z i:Int):Rat)) k),Ptr 2 (Jw ((((z i:Int):Rat)).num) k),Jw ((((z i:Int):Rat)).num) k,Jw (((((z i:Int):Rat)).num)*(1:Int)) (k+2),Ptr 4 (Dw (((z i:Int):Rat)) k),Ptr 2 (Jw ((((z i:Int):Rat)).den:Int) k),Jw ((((z i:Int):Rat)).den:Int) k,Jw (z i) (k+2),Jw (Int.gcd (aT z i:Int) (z i):Int) (k+2),Nz (i+1)]
def Dj:bp:=⟨[0,2,3,4,6,9,10,11,13,14,15,16,17,35,36],[(.slot 37,.i),(.cell 14 0,.s),(.cell 14 1,.b)],[(.one 0,25),(.agg [1,2],26)],[.closed (.one (Ai 0)),.closed (.agg [.nl,.cb false])],25,[(26,6)]⟩
def Dk:List Step:=[bQ [25,5] oT (am .lss),bQ [0,25] [oP 27] (adK 38),bQ [27] [oP 28] (ce 57 0),bQ [28] [oD 29] (aQ 55),
   cB 26 [29,4] [oD 30],bQ [0,25] [oP 31] (adK 38),bQ [31] [oP 32] (ce 57 1),bQ [32] [oD 33] (aQ 55),
   cB 85 [30,33] [oD 34],
   cB 84 [26,34] [oD 35],bQ [25,.lit (Ai 1)] [oN 36] (am .add)]
def Re:List Step:=[bQ [25,5] oF (am .lss)]
def Rf (z:Nat->Int) (k:Nat) (j:Nat):List WP:=[Nz j,Jw (1:Int) 2,Ptr 4 (Dw (((z j:Int):Rat)) k),Ptr 2 (Jw ((((z j:Int):Rat)).den:Int) k),Jw ((((z j:Int):Rat)).den:Int) k,Jw ((1:Int)*((((z j:Int):Rat)).den:Int)) (2+k),Ptr 4 (Dw (((z j:Int):Rat)) k),Ptr 2 (Jw ((((z j:Int):Rat)).den:Int) k),Jw ((((z j:Int):Rat)).den:Int) k,Jw (Int.gcd (1:Int) ((((z j:Int):Rat)).den:Int):Int) (k+2),Jw (1:Int) (2+k),Nz (j+1)]
def Do:bp:=⟨[0,2,3,4,9,10,11,13,14,15],[(.slot 16,.i),(.cell 7 0,.s),(.cell 7 1,.b)],[(.one 0,25),(.agg [1,2],26)],[.closed (.one (Ai 0)),.frm 2],25,[(26,4)]⟩
def Dp:List Step:=[bQ [25,3] oT (am .lss),bQ [0,25] [oP 27] (adK 38),bQ [27] [oP 28] (ce 57 1),bQ [28] [oD 29] (aQ 55),
   cB 26 [26,29] [oD 30],bQ [0,25] [oP 31] (adK 38),bQ [31] [oP 32] (ce 57 1),bQ [32] [oD 33] (aQ 55),
   cB 84 [26,33] [oD 34],
   cB 85 [30,34] [oD 35],bQ [25,.lit (Ai 1)] [oN 36] (am .add)]
def Rg:List Step:=[bQ [25,3] oF (am .lss)]
def Rh:List Step:=[bQ [0] [oN 1] (aC 38),bQ [1,.lit (Ai 0)] oF (am .eql),
   cB 24 [.lit (Ai 1)] [oD 2],bQ [0] [oN 3] (aC 38),.loop Do [(Dp,[.frm 36,.frm 35])] Rg,bQ [0] [oN 5] (aC 38),.loop Dj [(Dk,[.frm 36,.frm 35])] Re,
   cB 53 [6,4] [⟨.agg [.s,.b,.s,.b],[(0,0,7),(0,2,8),(2,2,9)]⟩],bQ [0] [oN 10] (aC 38),bQ [10,.lit (Ai 1)] [oN 11] (am .sub),bQ [0,11] [oP 12] (adK 38),bQ [12] [oP 13] (ce 57 0),bQ [13] [oP 14] (ce 55 1),bQ [14] oT (aQ 4),
   cB 52 [7] [⟨.agg [.s,.b,.s,.b],[(0,0,15),(0,2,16),(2,2,17)]⟩],
   cB 41 [.lit (Ai 1),.lit (Ai 1)] [⟨.agg [.s,.b,.s,.b],[(0,0,18),(0,2,19),(2,2,20)]⟩],
   cB 152 [18,15] [⟨.agg [.s,.b,.s,.b],[(0,0,21),(0,2,22),(2,2,23)]⟩],
   cB 82 [0,21] [oS 24]]
def Ri:List Out:=[oS 0]
theorem Rj  (hn0:0<n) (hn:n<=1000000) (hk:k<=3000) (hK:K<=400000) (hs:decide (z (n-1)<0)=true) (hg:∀i,i<=n->Bd (aT z i) k) (ht : -(aH (aT z n:Int) 1)=t) (ht0:t≠0) (hu:aH 1 1 / t=u) (hB:∀i,i<n->Bd (((z i:Int):Rat)*u).num.natAbs K∧Bd (((z i:Int):Rat)*u).den K) (hN:tl (λi=>(((z i:Int):Rat)*u).num) n=N):aj (ph (qq z n k K N t u)) prog ⟨128,[0],[⟨.agg [.s,.b,.s,.b],[(0,0,15),(0,2,16),(2,2,17)]⟩,oS 24],true⟩:=adL Ri [⟨.agg [.s,.b,.s,.b],[(0,0,15),(0,2,16),(2,2,17)]⟩,oS 24] Rh func128 (by kernel_rfl) (lB (aM (F:=(Zf z k)) underlying38 ad rfl) (lB (iL ad) (lB (fP (z:=1) rfl rfl) (lB (aM (F:=(Zf z k)) underlying38 ad rfl) (bN (counted n (λj=>ph (qq z n k K N t u ++ Rf z k j)) (λ_=>0) (λ_ p hp=>bO (show p<(qq z n k K N t u).length from hp)) ⟨λ_=>rfl,ad,trivial⟩ (λj _=>by
   skip
   exact ⟨(Dp,[.frm 36,.frm 35]),rfl,⟨ad,λ_ _ h=>ai.dm h CX,trivial⟩,(lB (bK ad ad) (lB (bw (i:=j) (F:=(Zf z k)) underlying38 ad ad rfl) (lB (cf (off:=2) (len:=2) (sz:=4) (F:=Dw (((z j:Int):Rat)) k) (G:=Jw ((((z j:Int):Rat)).den:Int) k) ad (λ_ _ h=>ah.snd' h) rfl) (lB (bT (sz:=2) (F:=Jw ((((z j:Int):Rat)).den:Int) k) ad (λ_ _ _ g h=>ai.kp h g) (λ_ _ h=>ai.is h) rfl) (lB (dE dD dD rfl rfl) (lB (bw (i:=j) (F:=(Zf z k)) underlying38 ad ad rfl) (lB (cf (off:=2) (len:=2) (sz:=4) (F:=Dw (((z j:Int):Rat)) k) (G:=Jw ((((z j:Int):Rat)).den:Int) k) ad (λ_ _ h=>ah.snd' h) rfl) (lB (bT (sz:=2) (F:=Jw ((((z j:Int):Rat)).den:Int) k) ad (λ_ _ _ g h=>ai.kp h g) (λ_ _ h=>ai.is h) rfl) (lB (ik (k+2) dD dD rfl rfl) (lB (gi dD dD rfl (by show ((Int.gcd 1 1:Nat):Int)≠0;decide) (by show ((Int.gcd 1 1:Nat):Int)∣1*1;decide) (by show (1*1:Int) / ((Int.gcd 1 1:Nat):Int)=1;decide)) (lB (ch ad rfl) au)))))))))))⟩) (lB (tlF ad ad) au)
   (poC (λ_ _ h=>(λh=>h) h) poN)) (lB (aM (F:=(Zf z k)) underlying38 ad rfl) (bN (counted n (λi=>ph (qq z n k K N t u ++ Rd z k i)) (λ_=>0) (λ_ p hp=>bO (show p<(qq z n k K N t u).length from hp)) ⟨λ_=>rfl,λw=>ai.sO w k,trivial⟩ (λi _=>by
   skip
   exact ⟨(Dk,[.frm 36,.frm 35]),rfl,⟨ad,λ_ _ h=>ai.dm h (hg (i+1) (by omega)),trivial⟩,(lB (bK ad ad) (lB (bw (i:=i) (F:=(Zf z k)) underlying38 ad ad rfl) (lB (cf (off:=0) (len:=2) (sz:=4) (F:=Dw (((z i:Int):Rat)) k) (G:=Jw ((((z i:Int):Rat)).num) k) ad (λ_ _ h=>ah.fst' h) rfl) (lB (bT (sz:=2) (F:=Jw ((((z i:Int):Rat)).num) k) ad (λ_ _ _ g h=>ai.kp h g) (λ_ _ h=>ai.is h) rfl) (lB (dE dD dD rfl rfl) (lB (bw (i:=i) (F:=(Zf z k)) underlying38 ad ad rfl) (lB (cf (off:=2) (len:=2) (sz:=4) (F:=Dw (((z i:Int):Rat)) k) (G:=Jw ((((z i:Int):Rat)).den:Int) k) ad (λ_ _ h=>ah.snd' h) rfl) (lB (bT (sz:=2) (F:=Jw ((((z i:Int):Rat)).den:Int) k) ad (λ_ _ _ g h=>ai.kp h g) (λ_ _ h=>ai.is h) rfl) (lB (gi dD dD rfl (by show ((1:Nat):Int)≠0;decide) (by show ((1:Nat):Int)∣z i*1;exact Int.one_dvd _) (by show z i*1 / ((1:Nat):Int)=z i;rw [Int.mul_one];exact Int.ediv_one _)) (lB (ik (k+2) dD dD rfl rfl) (lB (ch ad rfl) au)))))))))))⟩) (lB (tlF ad ad) au)
   (poC (λ_ _ h=>(λh=>h) h) poN)) (lB (gv dD dD rfl rfl rfl (rfl)) (lB (aM (F:=(Zf z k)) underlying38 ad rfl) (lB (cO ad rfl) (lB (bw (i:=(n-1)) (F:=(Zf z k)) underlying38 ad ad rfl) (lB (cf (off:=0) (len:=2) (sz:=4) (F:=Dw (((z (n-1):Int):Rat)) k) (G:=Jw ((((z (n-1):Int):Rat)).num) k) ad (λ_ _ h=>ah.fst' h) rfl) (lB (cf (off:=1) (len:=1) (sz:=2) (F:=Jw ((((z (n-1):Int):Rat)).num) k) (G:=λ_ v=>v = .agg #[.bool true]) ad (λ_ _ h=>ai.sP hs h) rfl) (lB (sQ ad) (lB (wR tS rfl rfl rfl (ht)) (lB (oz (z:=1) (y:=1) rfl rfl rfl rfl) (lB (qk tS tS rfl rfl rfl (ht0) (hu)) (lB (jk (q:=(λi=>((z i:Int):Rat))) (c:=u) (n:=n) (K:=K) ad tS rfl hB hN) au))))))))))))))))))
  (aP [.fact 0 (.one (.s))] ⟨Rw.Is 4 (Zf z k) n,trivial⟩) aV
section
variable {Φ:PH}{p q y x x1 x2:Nat}{c:Int}{a:Bool}{xs:List Nat}
theorem dV  (h:1<=k):Bd 1 k:=Nat.one_lt_pow (by omega) (by omega)
theorem wS (hk:0<4294967296 ^ k):∀{n:Nat},(∀i,i<n->Bd (z i).natAbs k)->Bd (aT z n) k
 | 0,_=>hk
 | n+1,h=>by
  rw [aT];rcases Nat.eq_zero_or_pos (z n).natAbs with h1 | h1
  ·rw [h1,Nat.gcd_zero_right];exact wS hk λi _=>h i (by omega)
  ·exact Nat.lt_of_le_of_lt (Nat.le_of_dvd h1 (Nat.gcd_dvd_right _ _)) (h n (by omega))
theorem gw {f:Nat->Int}:∀{n:Nat},(0<n->f (n-1)≠0)->tl f n=n
 | 0,_=>rfl
 | n+1,h=>by unfold tl;rw [if_neg (show ¬f n=0 from h (by omega))]
theorem Rk {P:List Int} (hp:Im Φ p (Rw 4 (Zf z k) n)) (hx:Φ x=Dw ((cD z n:Int):Rat) (k+2+2)) (hx1:Φ x1=Jw ((cD z n:Int):Rat).num (k+2+2)) (hx2:Φ x2=Jw (((cD z n:Int):Rat).den:Int) (k+2+2)) (hy:Φ y=λw v=>Rw 4 (λi w v=>ah w v ((ae P i:Int):Rat) K) P.length w v) (hkK:k<=K) (htl:tl z n=n) (hB:∀i,i<n->Bd (z i).natAbs k) (hP:dvL z n (cD z n)=P) (hn:n<=1000000:=by omega) (hk:k<=3000:=by omega) (hK1:1<=K:=by omega) (hK:K<=400000:=by omega):aj Φ prog ⟨128,[.fact p],[⟨.agg [.s,.b,.s,.b],[(0,0,x),(0,2,x1),(2,2,x2)]⟩,oS y],true⟩:=by
 rcases Nat.eq_zero_or_pos n with h0 | h0
 ·subst h0;have e:cD z 0=0:=rfl;have e1:P = []:=by rw [<- hP];rfl
  subst e1;have hQ:∀w v,ah w v (aH 0 1) 6->ah w v ((cD z 0:Int):Rat) (k+2+2):=λw v h=>ah.dm (ah.eq h (by rw [e];exact gg 0)) (by rw [e];exact Nat.pow_pos (by omega)) (dV (by omega));have wJ:∀w v,ai w v (aH 0 1).num 6->ai w v ((cD z 0:Int):Rat).num (k+2+2):=λw v h=>ai.dm (ai.eI h (by rw [e,gg])) (by rw [e];exact Nat.pow_pos (by omega));have hQ2:∀w v,ai w v ((aH 0 1).den:Int) 6->ai w v (((cD z 0:Int):Rat).den:Int) (k+2+2):=λw v h=>ai.dm (ai.eI h (by rw [gg];rfl)) (dV (by omega));intro X w vs hX ha;refine (aU (Φ:=Φ) (ar:=[.fact p]) (outs:=[⟨.agg [.s,.b,.s,.b],[(0,0,x),(0,2,x1),(2,2,x2)]⟩,⟨.one (.lit .nl),[]⟩]) (Dd (z:=z) (n:=0) (k:=k) rfl) ⟨hp,trivial⟩ ⟨⟨rfl,⟨rfl,rfl,λw v h=>hx▸hQ w v h⟩,⟨rfl,rfl,λw v h=>hx1▸wJ w v h⟩,⟨rfl,rfl,λw v h=>hx2▸hQ2 w v h⟩,trivial⟩,⟨rfl,trivial⟩,trivial⟩ X w vs hX ha).mono λe w' ⟨hg,us,he,h2⟩=>⟨hg,us,he,?_⟩
  match us,h2 with
  | [u0,u],h2=>
   have e:u = .slice none 0 0:=h2.2.1.1.1;subst e;exact ⟨h2.1,cP ⟨⟨_,_,_,rfl⟩,λ_ h=>by cases h⟩ hy λ_ _=>Rw.nil _ _ _⟩
 have hl:z (n-1)≠0:=by
  have:=fG z n (by omega)
  rwa [htl] at this
 have hld:qr z n=z (n-1):=by rw [qr,if_neg (by omega),htl]
 have hc0:cD z n≠0:=Rm;have hcq:((cD z n:Int):Rat)≠0:=λh=>hc0 (by have:=congrArg Rat.num h;exact this);have hd:∀i,i<n->((z i:Int):Rat)*(aH 1 1 / ((cD z n:Int):Rat))=((z i / cD z n:Int):Rat):=λi hi=>by obtain ⟨d,hd⟩:=wT (z:=z) i hi;have e1:aH 1 1=(1:Rat):=gg 1;rw [e1,hd,Int.mul_ediv_cancel_left _ hc0,Rat.intCast_mul,Rat.div_def,Rat.one_mul,Rat.mul_comm ((cD z n:Int):Rat),Rat.mul_assoc,Rat.mul_inv_cancel _ hcq,Rat.mul_one]
 have hle:∀i,i<n->(z i / cD z n).natAbs<=(z i).natAbs:=λi hi=>by obtain ⟨d,hd⟩:=wT (z:=z) i hi;rw [hd,Int.mul_ediv_cancel_left _ hc0,Int.natAbs_mul];exact Nat.le_mul_of_pos_left _ (Int.natAbs_pos.2 hc0)
 have hg:∀i,i<=n->Bd (aT z i:Int).natAbs k:=λi hi=>wS (Nat.pow_pos (by omega)) λj hj=>hB j (by omega);have hB':∀i,i<n->Bd (((z i:Int):Rat)*(aH 1 1 / ((cD z n:Int):Rat))).num.natAbs K∧Bd (((z i:Int):Rat)*(aH 1 1 / ((cD z n:Int):Rat))).den K:=λi hi=>by rw [hd i hi];exact ⟨Nat.lt_of_le_of_lt (hle i hi) ((hB i hi).more hkK),dV hK1⟩
 have hPl:P.length=n:=by rw [<- hP,dvL,dc,htl]
 have hN:tl (λi=>(((z i:Int):Rat)*(aH 1 1 / ((cD z n:Int):Rat))).num) n=P.length:=by rw [hPl];refine gw λ_=>?_;show (((z (n-1):Int):Rat)*(aH 1 1 / ((cD z n:Int):Rat))).num≠0;rw [hd _ (by omega)];intro h;have h:z (n-1) / cD z n=0:=h;obtain ⟨d,hd⟩:=wT (z:=z) (n:=n) (n-1) (by omega);rw [hd,Int.mul_ediv_cancel_left _ hc0] at h;rw [h,Int.mul_zero] at hd;exact hl hd
 have hrow:∀w v,Rw 4 (λi w v=>ah w v (((z i:Int):Rat)*(aH 1 1 / ((cD z n:Int):Rat))) K) P.length w v->Rw 4 (λi w v=>ah w v ((ae P i:Int):Rat) K) P.length w v:=λw v h=>Rw.to (sz:=4) (n:=P.length) (F:=λi w v=>ah w v (((z i:Int):Rat)*(aH 1 1 / ((cD z n:Int):Rat))) K) h λi w v hi h=>ah.eq h (by
  rw [hPl] at hi;rw [hd i hi,<- hP,dvL,cU,htl,if_pos hi])
 by_cases hs:z (n-1)<0
 ·have e:cD z n = -(aT z n:Int):=by rw [cD,hld,if_pos hs]
  exact aU (Φ:=Φ) (Rj (z:=z) (n:=n) (k:=k) (K:=K) (N:=P.length) (t:=((cD z n:Int):Rat)) (u:=aH 1 1 / ((cD z n:Int):Rat)) h0 hn hk hK (decide_eq_true hs) hg (by rw [gg,e,Rat.intCast_neg]) hcq rfl hB' hN) ⟨hp,trivial⟩ ⟨⟨rfl,⟨rfl,rfl,λ_ _ h=>hx▸h⟩,⟨rfl,rfl,λ_ _ h=>hx1▸h⟩,⟨rfl,rfl,λ_ _ h=>hx2▸h⟩,trivial⟩,⟨rfl,⟨rfl,rfl,λw v h=>hy▸hrow w v h⟩,trivial⟩,trivial⟩
 ·have e:cD z n=(aT z n:Int):=by rw [cD,hld,if_neg hs]
  exact aU (Φ:=Φ) (Rc (z:=z) (n:=n) (k:=k) (K:=K) (N:=P.length) (t:=((cD z n:Int):Rat)) (u:=aH 1 1 / ((cD z n:Int):Rat)) h0 hn hk hK (decide_eq_false hs) hg (by rw [gg,e]) hcq rfl hB' hN) ⟨hp,trivial⟩ ⟨⟨rfl,⟨rfl,rfl,λ_ _ h=>hx▸h⟩,⟨rfl,rfl,λ_ _ h=>hx1▸h⟩,⟨rfl,rfl,λ_ _ h=>hx2▸h⟩,trivial⟩,⟨rfl,⟨rfl,rfl,λw v h=>hy▸hrow w v h⟩,trivial⟩,trivial⟩
end
def de (n:Nat) (q:Nat->Rat) (i:Nat):Rat:=if i<n then q i else 0
theorem wD:aH 0 1=0:=by decide +kernel
theorem OV:aH (-1) 1 = -1:=by decide +kernel
def OW (q:Nat->Rat) (n i k:Nat):List WP:=[Rw 4 (Df q k) n,Nz i,Nz n,Ptr 4 (Dw (q i) k),Dw (q i) k]
def OZ:List Step:=[bQ [1,.lit (Ai 0)] oF (am .lss),bQ [0] [oN 2] (aC 38),bQ [1,2] oF (am .geq),bQ [0,1] [oP 3] (adK 38),bQ [3] [oQ 4] (aQ 57)]
def Pa:List Out:=[oS 0,oN 1]
theorem Pb  (_hn:n<=1000000) (hi:i<n):aj (ph (OW q n i k)) prog ⟨185,[0,1],[oQ 4],false⟩:=adL Pa [oQ 4] OZ func185 (by kernel_rfl) (lB (cn (op:=.lss) ad (bz (show decide (((i:Nat):Int)<0)=false from decide_eq_false (by omega)) (by simp))) (lB (aM (F:=(Df q k)) underlying38 ad rfl) (lB (thF ad ad) (lB (bw (i:=i) (F:=(Df q k)) underlying38 ad ad rfl) (lB (bT (sz:=4) (F:=Dw (q i) k) ad (λ_ _ _ g h=>ah.kp h g) (λ_ _ h=>ah.is h) rfl) au)))))
  (aP [.fact 0 (.one (.s)),.fact 1 (.one (.i))] ⟨Rw.Is 4 (Df q k) n,λ_ _ h=>h▸cY _,trivial⟩) (λ_ _ _ h=>h)
def Pc (q:Nat->Rat) (n i k:Nat):List WP:=[Rw 4 (Df q k) n,Nz i,Nz n,Dw (aH 0 1) 6,Jw ((aH 0 1).num) 6,Jw ((aH 0 1).den:Int) 6]
def Pd:List Step:=[bQ [1,.lit (Ai 0)] oF (am .lss),bQ [0] [oN 2] (aC 38),bQ [1,2] oT (am .geq),
   cB 150 [] [⟨.agg [.s,.b,.s,.b],[(0,0,3),(0,2,4),(2,2,5)]⟩]]
def Pe:List Out:=[oS 0,oN 1]
theorem Pf  (_hn:n<=1000000) (hi:n<=i):aj (ph (Pc q n i k)) prog ⟨185,[0,1],[oQ 3],false⟩:=adL Pe [oQ 3] Pd func185 (by kernel_rfl) (lB (cn (op:=.lss) ad (bz (show decide (((i:Nat):Int)<0)=false from decide_eq_false (by omega)) (by simp))) (lB (aM (F:=(Df q k)) underlying38 ad rfl) (lB (sF ad ad) (lB (qj rfl rfl rfl) au))))
  (aP [.fact 0 (.one (.s)),.fact 1 (.one (.i))] ⟨Rw.Is 4 (Df q k) n,λ_ _ h=>h▸cY _,trivial⟩) (λ_ _ _ h=>h)
section
variable {Φ:PH}{p x y:Nat}
theorem Cr (hp:Im Φ p (Rw 4 (Df q k) n)) (hy:Im Φ y (Ni (i:Int))) (hx:Φ x=Dw (de n q i) k) (hn:n<=1000000:=by omega) (hk:1<=k:=by omega):aj Φ prog ⟨185,[.fact p,.fact y],[oQ x],false⟩:=by
 rcases Nat.lt_or_ge i n with h | h
 ·refine aU (Pb (q:=q) (n:=n) (i:=i) (k:=k) hn h) ⟨hp,hy,trivial⟩ ⟨⟨rfl,⟨rfl,rfl,λw v h1=>?_⟩,trivial⟩,trivial⟩;rw [hx,de,if_pos h];exact h1
 ·refine aU (Pf (q:=q) (n:=n) (i:=i) (k:=k) hn h) ⟨hp,hy,trivial⟩ ⟨⟨rfl,⟨rfl,rfl,λw v h1=>?_⟩,trivial⟩,trivial⟩;rw [hx,de,if_neg (by omega)];exact ah.dm (ah.eq h1 wD) (Nat.pow_pos (by omega)) (dV hk)
end
def aX (q:Nat->Rat) (n:Nat) (r:Nat->Rat) (m i:Nat):Rat:=de n q i+de m r i
def dX (q:Nat->Rat) (n:Nat) (r:Nat->Rat) (m i:Nat):Rat:=de n q i-de m r i
theorem Pg :aX q n (λi=>-(r i)) m i=dX q n r m i:=by
 unfold aX dX de;by_cases h:i<m
 ·simp only [if_pos h];rw [Rat.sub_eq_add_neg]
 ·simp only [if_neg h];rw [Rat.sub_eq_add_neg,Rat.neg_zero]
def Ph (q:Nat->Rat) (n k K N:Nat):List WP:=[Rw 4 (Df q k) n,Dw (aH (-1) 1) 6,Jw ((aH (-1) 1).num) 6,Jw ((aH (-1) 1).den:Int) 6,λw v=>Rw 4 (λι w v=>ah w v ((q ι*(aH (-1) 1))) K) N w v]
def Pi:List Step:=[cB 41 [.lit (Ai (-1)),.lit (Ai 1)] [⟨.agg [.s,.b,.s,.b],[(0,0,1),(0,2,2),(2,2,3)]⟩],
   cB 82 [0,1] [oS 4]]
def Pj:List Out:=[oS 0]
theorem Pk  (hn:n<=1000000) (hk:k<=8000) (hB:∀i,i<n->Bd (q i*aH (-1) 1).num.natAbs K∧Bd (q i*aH (-1) 1).den K) (hN:tl (λi=>(q i*aH (-1) 1).num) n=N) (hK:K<=400000:=by omega):aj (ph (Ph q n k K N)) prog ⟨88,[0],[oS 4],false⟩:=adL Pj [oS 4] Pi func88 (by kernel_rfl) (lB (oz (z:=(-1)) (y:=1) rfl rfl rfl rfl) (lB (jk (q:=λi=>q i) (c:=(aH (-1) 1)) (n:=n) (K:=K) ad tS rfl hB hN) au))
  (aP [.fact 0 (.one (.s))] ⟨Rw.Is 4 (Df q k) n,trivial⟩) aV
section
variable {Φ:PH}{p x y:Nat}{s:Nat->Rat}
theorem wE (hp:Im Φ p (Rw 4 (Df q k) n)) (hx:Φ x=λw v=>Rw 4 (λi w v=>ah w v (-(q i)) k) n w v) (_:True) (hb:∀i,i<n->Bd (q i).num.natAbs k∧Bd (q i).den k) (ht:0<n->(q (n-1)).num≠0) (hn:n<=1000000:=by omega) (hk:k<=8000:=by omega):aj Φ prog ⟨88,[.fact p],[oS x],false⟩:=by
 have e:∀i,q i*aH (-1) 1 = -(q i):=λi=>by rw [OV,Rat.mul_neg,Rat.mul_one]
 refine aU (Pk (q:=q) (n:=n) (k:=k) (K:=k) (N:=n) hn hk (λi hi=>?_) (gw λh=>?_)) ⟨hp,trivial⟩ ⟨⟨rfl,⟨rfl,rfl,λw v h=>?_⟩,trivial⟩,trivial⟩
 ·rw [e,Rat.neg_num,Rat.neg_den,Int.natAbs_neg];exact hb i hi
 ·show (q (n-1)*aH (-1) 1).num≠0;rw [e,Rat.neg_num];have:=ht h;omega
 ·rw [hx];have h:Rw 4 (λi w v=>ah w v (q i*aH (-1) 1) k) n w v:=h;simp only [e] at h;exact h
end
section
variable {Φ:PH}{p x y:Nat}
end
def wF (q:Nat->Rat) (n0 k c0:Nat) (s0:Option Addr):List WP:=[fQ s0 c0 4 (Df q k) n0,Nz n0,Nz (tl (λι=>(q ι).num) n0),fQ s0 c0 4 (Df q k) (tl (λι=>(q ι).num) n0)]
def Pn (q:Nat->Rat) (n0 k:Nat) (j:Nat):List WP:=[Nz (n0-j),Nz (n0-(j+1)),Ptr 4 (Dw ((q (n0-(j+1)))) k),Ptr 2 (Jw (((q (n0-(j+1)))).num) k),Jw (((q (n0-(j+1)))).num) k,Nz (n0-(j+1))]
def Cs:bp:=⟨[0,2,4,5],[(.slot 3,.i)],[(.one 0,4)],[.frm 1],4,[(4,2)]⟩
def Ct:List Step:=[bQ [4,.lit (Ai 0)] oT (am .gtr),bQ [4,.lit (Ai 1)] [oN 5] (am .sub),bQ [0,5] [oP 6] (adK 38),bQ [6] [oP 7] (ce 57 0),bQ [7] [oD 8] (aQ 55),
   cB 28 [8] oT,bQ [4,.lit (Ai 1)] [oN 9] (am .sub)]
def Po:List Step:=[bQ [4,.lit (Ai 0)] oF (am .gtr)]
def Pp:List Step:=[bQ [0] [oN 1] (aC 38),.loop Cs [(Ct,[.frm 9])] Po,bQ [0,2] [oS 3] (eL 38)]
def Pq:List Out:=[oS 0]
theorem Pr  (hn:n0<=1000000) (_hk:k<=500000) (ht:(tl (λι=>(q ι).num) n0)=0):aj (ph (wF q n0 k c0 s0)) prog ⟨42,[0],[oS 3],false⟩:=by
 have hle:=bg (λι=>(q ι).num) n0;exact adL Pq [oS 3] Pp func42 (by kernel_rfl) (lB (lF (sz:=4) (n:=n0) (F:=(Df q k)) underlying38 (λ_ _ h=>Rw.arr h.2) rfl) (bN (counted (n0-(tl (λι=>(q ι).num) n0)) (λj=>ph (wF q n0 k c0 s0 ++ Pn q n0 k j)) (λ_=>0) (λ_ p hp=>bO (show p<(wF q n0 k c0 s0).length from hp)) ⟨ad,trivial⟩ (λj _=>by
   have h0:(q (n0-(j+1))).num=0:=gH (λι=>(q ι).num) n0 _ (by omega) (by omega);exact ⟨(Ct,[.frm 9]),rfl,⟨ad,trivial⟩,(lB (gG ad) (lB (cO ad rfl) (lB (lG (i:=(n0-(j+1))) (sz:=4) (n:=n0) (F:=(Df q k)) underlying38 (by kernel_rfl) (λ_ _ h=>Rw.arr h.2) ad (by omega) rfl) (lB (cf (off:=0) (len:=2) (sz:=4) (F:=Dw ((q (n0-(j+1)))) k) (G:=Jw (((q (n0-(j+1)))).num) k) ad (λ_ _ h=>ah.fst' h) rfl) (lB (bT (sz:=2) (F:=Jw (((q (n0-(j+1)))).num) k) ad (λ_ _ _ g h=>ai.kp h g) (λ_ _ h=>ai.is h) rfl) (lB (gh dD (decide_eq_true h0)) (lB (cO ad rfl) au)))))))⟩)
   (by
   have hle:=bg (λι=>(q ι).num) n0;exact (lB (lu ad) au))
   (poC (λ_ _ h=>(λh=>h.trans (congrArg (Value.int .i64) (by have:=bg (λι=>(q ι).num) n0;omega))) h) poN)) (lB (sG (m:=(tl (λι=>(q ι).num) n0)) (n:=n0) (F:=(Df q k)) underlying38 ad ad (by first | omega | exact bg _ _) rfl) au)))
  (aP [.fact 0 (.one (.s))] ⟨λ_ _ h=>Rw.is (sz:=4) (F:=Df q k) (n:=n0) h.2,trivial⟩) aV
def wG (q:Nat->Rat) (n0 k c0:Nat) (s0:Option Addr):List WP:=[fQ s0 c0 4 (Df q k) n0,Nz n0,Nz (tl (λι=>(q ι).num) n0),fQ s0 c0 4 (Df q k) (tl (λι=>(q ι).num) n0)]
def Ps (q:Nat->Rat) (n0 k:Nat) (j:Nat):List WP:=[Nz (n0-j),Nz (n0-(j+1)),Ptr 4 (Dw ((q (n0-(j+1)))) k),Ptr 2 (Jw (((q (n0-(j+1)))).num) k),Jw (((q (n0-(j+1)))).num) k,Nz (n0-(j+1)),Ni ((((tl (λι=>(q ι).num) n0)-1):Nat):Int),Ptr 4 (Dw ((q ((tl (λι=>(q ι).num) n0)-1))) k),Ptr 2 (Jw (((q ((tl (λι=>(q ι).num) n0)-1))).num) k),Jw (((q ((tl (λι=>(q ι).num) n0)-1))).num) k]
def Cu:bp:=⟨[0,2,4,5],[(.slot 3,.i)],[(.one 0,4)],[.frm 1],4,[(4,2)]⟩
def Cv:List Step:=[bQ [4,.lit (Ai 0)] oT (am .gtr),bQ [4,.lit (Ai 1)] [oN 5] (am .sub),bQ [0,5] [oP 6] (adK 38),bQ [6] [oP 7] (ce 57 0),bQ [7] [oD 8] (aQ 55),
   cB 28 [8] oT,bQ [4,.lit (Ai 1)] [oN 9] (am .sub)]
def Pt:List Step:=[bQ [4,.lit (Ai 0)] oT (am .gtr),bQ [4,.lit (Ai 1)] [oN 10] (am .sub),bQ [0,10] [oP 11] (adK 38),bQ [11] [oP 12] (ce 57 0),bQ [12] [oD 13] (aQ 55),
   cB 28 [13] oF]
def Pu:List Step:=[bQ [0] [oN 1] (aC 38),.loop Cu [(Cv,[.frm 9])] Pt,bQ [0,2] [oS 3] (eL 38)]
def Pw:List Out:=[oS 0]
theorem Px  (hn:n0<=1000000) (_hk:k<=500000) (ht:0<(tl (λι=>(q ι).num) n0)):aj (ph (wG q n0 k c0 s0)) prog ⟨42,[0],[oS 3],false⟩:=by
 have hle:=bg (λι=>(q ι).num) n0;exact adL Pw [oS 3] Pu func42 (by kernel_rfl) (lB (lF (sz:=4) (n:=n0) (F:=(Df q k)) underlying38 (λ_ _ h=>Rw.arr h.2) rfl) (bN (counted (n0-(tl (λι=>(q ι).num) n0)) (λj=>ph (wG q n0 k c0 s0 ++ Ps q n0 k j)) (λ_=>0) (λ_ p hp=>bO (show p<(wG q n0 k c0 s0).length from hp)) ⟨ad,trivial⟩ (λj _=>by
   have h0:(q (n0-(j+1))).num=0:=gH (λι=>(q ι).num) n0 _ (by omega) (by omega);exact ⟨(Cv,[.frm 9]),rfl,⟨ad,trivial⟩,(lB (gG ad) (lB (cO ad rfl) (lB (lG (i:=(n0-(j+1))) (sz:=4) (n:=n0) (F:=(Df q k)) underlying38 (by kernel_rfl) (λ_ _ h=>Rw.arr h.2) ad (by omega) rfl) (lB (cf (off:=0) (len:=2) (sz:=4) (F:=Dw ((q (n0-(j+1)))) k) (G:=Jw (((q (n0-(j+1)))).num) k) ad (λ_ _ h=>ah.fst' h) rfl) (lB (bT (sz:=2) (F:=Jw (((q (n0-(j+1)))).num) k) ad (λ_ _ _ g h=>ai.kp h g) (λ_ _ h=>ai.is h) rfl) (lB (gh dD (decide_eq_true h0)) (lB (cO ad rfl) au)))))))⟩)
   (by
   have hle:=bg (λι=>(q ι).num) n0;have hl:=fG (λι=>(q ι).num) n0 ht;exact (lB (gG ad) (lB (cO ad rfl) (lB (lG (i:=((tl (λι=>(q ι).num) n0)-1)) (sz:=4) (n:=n0) (F:=(Df q k)) underlying38 (by kernel_rfl) (λ_ _ h=>Rw.arr h.2) ad (by omega) rfl) (lB (cf (off:=0) (len:=2) (sz:=4) (F:=Dw ((q ((tl (λι=>(q ι).num) n0)-1))) k) (G:=Jw (((q ((tl (λι=>(q ι).num) n0)-1))).num) k) ad (λ_ _ h=>ah.fst' h) rfl) (lB (bT (sz:=2) (F:=Jw (((q ((tl (λι=>(q ι).num) n0)-1))).num) k) ad (λ_ _ _ g h=>ai.kp h g) (λ_ _ h=>ai.is h) rfl) (lB (gh dD (decide_eq_false hl)) au)))))))
   (poC (λ_ _ h=>(λh=>h.trans (congrArg (Value.int .i64) (by have:=bg (λι=>(q ι).num) n0;omega))) h) poN)) (lB (sG (m:=(tl (λι=>(q ι).num) n0)) (n:=n0) (F:=(Df q k)) underlying38 ad ad (by first | omega | exact bg _ _) rfl) au)))
  (aP [.fact 0 (.one (.s))] ⟨λ_ _ h=>Rw.is (sz:=4) (F:=Df q k) (n:=n0) h.2,trivial⟩) aV
section
variable {Φ:PH}{p x:Nat}
theorem Py  (hp:Im Φ p (fQ s0 c0 4 (Df q k) n)) (hx:Φ x=fQ s0 c0 4 (Df q k) (tl (λi=>(q i).num) n)) (hn:n<=1000000) (hk:k<=500000):aj Φ prog ⟨42,[.fact p],[oS x],false⟩:=by
 rcases Nat.eq_zero_or_pos (tl (λi=>(q i).num) n) with h | h
 ·exact aU (Pr hn hk h) ⟨hp,trivial⟩ ⟨⟨rfl,⟨rfl,rfl,λ_ _ h=>hx▸h⟩,trivial⟩,trivial⟩
 ·exact aU (Px hn hk h) ⟨hp,trivial⟩ ⟨⟨rfl,⟨rfl,rfl,λ_ _ h=>hx▸h⟩,trivial⟩,trivial⟩
theorem Pz {j:Nat} (hp:Im Φ p (aA 4 57 (Df q k) n)) (hx:Φ x=aA 4 57 (Df q k) (tl (λi=>(q i).num) n)) (hn:n<=1000000:=by omega) (hk:k<=500000:=by omega):aj Φ prog ⟨42,[.fact p],[oS x],.mT [] j 0⟩:=λX L w vs hX hL hLX ha hb=>by
 match vs,ha with
 | [v],ha=>
  have h1:=hp _ _ (ha.1 w (Off.refl _ _));obtain ⟨s0,c0,rfl,hc,he⟩:=h1.rw;refine (Py (Φ:=ph [fQ s0 c0 4 (Df q k) n,fQ s0 c0 4 (Df q k) (tl (λi=>(q i).num) n)]) (p:=0) (x:=1) (s0:=s0) (c0:=c0) ad rfl hn hk X w [.slice s0 n c0] hX ⟨λw1 hw=>⟨rfl,(hp _ _ (ha.1 w1 hw)).rw⟩,trivial⟩).mono λe w' ⟨hg,us,he,ho⟩=>?_
  match us,ho with
  | [u],ho=>
   have hu:=ho.1.2 _ (List.mem_singleton.2 rfl) w' (Off.refl _ _);obtain ⟨rfl,-⟩:u = .slice s0 (tl (λi=>(q i).num) n) c0∧_:=hu;refine ⟨hg,_,he,cP ⟨⟨_,_,_,rfl⟩,λ_ h=>by cases h⟩ hx λw1 hw=>(hp _ _ (ha.1 w1 ((Off.grown hg).trans hw λ_ _ h=>h))).take (bg _ n),λg hg'=>?_⟩;have hg2:blk (.slice s0 n c0)=some g:=by
    revert hg'
    cases s0 <;> exact λh=>h
   have h3:=hb _ g rfl hg2;exact ⟨Nat.lt_of_lt_of_le (hL g h3) hg.size,.inl h3⟩
end
def wH (q r:Nat->Rat) (n m k l K:Nat):List WP:=[Rw 4 (Df q k) n,Rw 4 (Df r l) m,aA 4 57 (Df (aX q n r m) K) (max n m),aA 4 57 (Df (aX q n r m) K) (tl (λι=>(aX q n r m ι).num) (max n m))]
def PA (q r:Nat->Rat) (n m k l K:Nat) (j:Nat):List WP:=[Nz j,aA 4 57 (Df (aX q n r m) K) j,λ_ _=>True,Nz n,Nz m,Nz (max n m),Dw (de n (λι=>q ι) j) k,Dw (de m (λι=>r ι) j) l,Dw ((de n (λι=>q ι) j)+(de m (λι=>r ι) j)) (3*(k+l)+3),Jw (((de n (λι=>q ι) j)+(de m (λι=>r ι) j)).num) (3*(k+l)+3),Jw (((de n (λι=>q ι) j)+(de m (λι=>r ι) j)).den:Int) (3*(k+l)+3),aA 4 57 (Df (aX q n r m) K) (j+1),Nz (j+1),Nz n,Nz m,Nz (max n m)]
def Cw:bp:=⟨[0,1,4],[(.slot 6,.i),(.slot 5,.s)],[(.one 0,4),(.one 1,.cM [1] 5),(.one 1,.lo 1)],[.closed (.one (Ai 0)),.closed (.one (.nl)),.frm 0],4,[(5,2)]⟩
def Cx:List Step:=[bQ [0] [oN 7] (aC 38),bQ [1] [oN 8] (aC 38),bQ [7,8] [oN 9] (kF .max),bQ [4,9] oT (am .lss),
   cB 185 [0,4] [oQ 10],
   cB 185 [1,4] [oQ 11],
   cB 151 [10,11] [⟨.agg [.s,.b,.s,.b],[(0,0,12),(0,2,13),(2,2,14)]⟩],.base ⟨0,[5,.row 4 [12]],[oS 15],.loose [] 1 0 (cA 38 38)⟩,bQ [4,.lit (Ai 1)] [oN 16] (am .add)]
def PB:List Step:=[bQ [0] [oN 17] (aC 38),bQ [1] [oN 18] (aC 38),bQ [17,18] [oN 19] (kF .max),bQ [4,19] oF (am .lss)]
def PC:List Step:=[.loop Cw [(Cx,[.frm 16,.frm 15,.frm 0])] PB,.base ⟨42,[2],[oS 3],.mT [] 1 0⟩]
def PD:List Out:=[oS 0,oS 1]
theorem PE  (hn:n<=1000000) (hm:m<=1000000) (hk:k<=8000) (hl:l<=8000) (hk1:1<=k) (hl1:1<=l) (hK:K<=400000) (hB:∀i,i<max n m->Bd (aX q n r m i).num.natAbs K∧Bd (aX q n r m i).den K):eT (ph (wH q r n m k l K)) prog ⟨178,[0,1],[oS 3],false⟩:=iJ PD [oS 3] PC func178 (by kernel_rfl) (bN (counted (max n m) (λj=>ph (wH q r n m k l K ++ PA q r n m k l K j)) (λ_=>0) (λ_ p hp=>bO (show p<(wH q r n m k l K).length from hp)) ⟨λ_=>rfl,λw=>aA.nil 4 57 (Df (aX q n r m) K) w,bI,trivial⟩ (λj _=>by
   skip
   exact ⟨(Cx,[.frm 16,.frm 15,.frm 0]),rfl,⟨ad,ad,bI,trivial⟩,(lB (aM (F:=(Df q k)) underlying38 ad rfl) (lB (aM (F:=(Df r l)) underlying38 ad rfl) (lB (sH ad ad (by split <;> omega) rfl) (lB (bK ad ad) (lB (Cr (q:=λι=>q ι) (n:=n) (i:=j) ad ad rfl) (lB (Cr (q:=λι=>r ι) (n:=m) (i:=j) ad ad rfl) (lB (Cy tS tS rfl rfl rfl rfl) (lB (mJ (n:=j) (F:=(Df (aX q n r m) K)) (λ_ _ _ _ g h=>ah.kp h g) ad (λ_ _ h=>ah.dm h (hB j (by omega)).1 (hB j (by omega)).2) (λ_ _ h=>ah.dQ h) rfl) (lB (ch ad rfl) au)))))))))⟩) (lB (aM (F:=(Df q k)) underlying38 ad rfl) (lB (aM (F:=(Df r l)) underlying38 ad rfl) (lB (sH ad ad (by split <;> omega) rfl) (lB (tlF ad ad) au))))
   (poC (λ_ _ h=>(λh=>h) h) poN)) (lB (Pz (q:=(λι=>aX q n r m ι)) (n:=(max n m)) (k:=K) ad rfl) au))
  (aP [.fact 0 (.one (.s)),.fact 1 (.one (.s))] ⟨Rw.Is 4 (Df q k) n,Rw.Is 4 (Df r l) m,trivial⟩) aV
section
variable {Φ:PH}{p x y j:Nat}{J:List Nat}{s:Nat->Rat}
theorem PF (hp:Im Φ p (Rw 4 (Df q k) n)) (hy:Im Φ y (Rw 4 (Df r l) m)) (hx:Φ x=aA 4 57 (Df s K) N) (hs:∀i,aX q n r m i=s i) (hB:∀i,i<max n m->Bd (s i).num.natAbs K∧Bd (s i).den K) (hN:tl (λi=>(s i).num) (max n m)=N) (hn:n<=1000000:=by omega) (hm:m<=1000000:=by omega) (hk:k<=8000:=by omega) (hl:l<=8000:=by omega) (hk1:1<=k:=by omega) (hl1:1<=l:=by omega) (hK:K<=400000:=by omega):aj Φ prog ⟨178,[.fact p,.fact y],[oS x],.eM J j⟩:=by obtain rfl:aX q n r m=s:=funext hs;exact jF (PE (q:=q) (r:=r) hn hm hk hl hk1 hl1 hK hB) ⟨hp,hy,trivial⟩ ⟨⟨rfl,⟨rfl,rfl,λ_ _ h=>hx▸hN▸h⟩,trivial⟩,trivial⟩
end
def PG (q r:Nat->Rat) (n m k l K N:Nat):List WP:=[Rw 4 (Df q k) n,Rw 4 (Df r l) m,λw v=>Rw 4 (λι w v=>ah w v ((-(r ι))) l) m w v,aA 4 57 (Df (dX q n r m) K) N]
def PI:List Step:=[cB 88 [1] [oS 2],.base ⟨178,[0,2],[oS 3],.eM [] 1⟩]
def PJ:List Out:=[oS 0,oS 1]
theorem PK  (hn:n<=1000000) (hm:m<=1000000) (hk:k<=8000) (hl:l<=8000) (hk1:1<=k) (hl1:1<=l) (hm1:True) (hb:∀i,i<m->Bd (r i).num.natAbs l∧Bd (r i).den l) (hmt:0<m->(r (m-1)).num≠0) (hK:K<=400000) (hB:∀i,i<max n m->Bd (dX q n r m i).num.natAbs K∧Bd (dX q n r m i).den K) (hN:tl (λi=>(dX q n r m i).num) (max n m)=N):eT (ph (PG q r n m k l K N)) prog ⟨168,[0,1],[oS 3],false⟩:=iJ PJ [oS 3] PI func168 (by kernel_rfl) (lB (wE (q:=λi=>r i) (n:=m) ad rfl hm1 hb hmt) (lB (PF (q:=q) (r:=λi=>-(r i)) (s:=dX q n r m) (n:=n) (m:=m) (K:=K) (N:=N) ad ad rfl (λ_=>Pg) hB hN) au))
  (aP [.fact 0 (.one (.s)),.fact 1 (.one (.s))] ⟨Rw.Is 4 (Df q k) n,Rw.Is 4 (Df r l) m,trivial⟩) aV
section
variable {Φ:PH}{p x y j:Nat}{J:List Nat}
theorem PM (hp:Im Φ p (Rw 4 (Df q k) n)) (hy:Im Φ y (Rw 4 (Df r l) m)) (hx:Φ x=aA 4 57 (Df (dX q n r m) K) N) (hb:∀i,i<m->Bd (r i).num.natAbs l∧Bd (r i).den l) (ht:0<m->(r (m-1)).num≠0) (hB:∀i,i<max n m->Bd (dX q n r m i).num.natAbs K∧Bd (dX q n r m i).den K) (hN:tl (λi=>(dX q n r m i).num) (max n m)=N) (hn:n<=1000000:=by omega) (hm:m<=1000000:=by omega) (hk:k<=8000:=by omega) (hl:l<=8000:=by omega) (hk1:1<=k:=by omega) (hl1:1<=l:=by omega) (hK:K<=400000:=by omega):aj Φ prog ⟨168,[.fact p,.fact y],[oS x],.eM J j⟩:=
 jF (PK (q:=q) (r:=r) (k:=k) (l:=l) hn hm hk hl hk1 hl1 trivial hb ht hK hB hN) ⟨hp,hy,trivial⟩ ⟨⟨rfl,⟨rfl,rfl,λ_ _ h=>hx▸h⟩,trivial⟩,trivial⟩
end
end Go.Proofs.YtlmanbjkkjfjgaaGreat.Sym
