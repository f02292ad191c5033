/- The reference's Scale, T -/
import Derived.Test.YtomamliepbhegaaGreatDivC
import Derived.Test.YtomamliepbhegaaGreatRatL
set_option maxRecDepth 100000
namespace Go.Proofs.YtomamliepbhegaaGreat.Sym
open Go.Proofs.Tryz
open Go.RowKit
variable {w:World}{v:Value}{z:Nat->Int}{K N k l n:Nat}{b:Bool}{t u:Rat}
theorem af.fX {z:Int}{k:Nat} (h:af w v z k) (hb:Bd z.natAbs l):af w v z l:=by
 obtain ⟨p,c,h1,h2⟩:=h
 exact ⟨p,c,h1,h2.1,hb⟩
theorem al.fX {q:Rat}{k:Nat} (h:al w v q k) (h1:Bd q.num.natAbs l) (h2:Bd q.den l):al w v q l:=by
 obtain ⟨p,n,c,b,p',n',c',b',h3,h4,h5⟩:=h
 exact ⟨p,n,c,b,p',n',c',b',h3,af.fX h4 h1,af.fX h5 (by rw [Int.natAbs_natCast];exact h2)⟩
theorem AY:Bd (Int.natAbs 1) 2:=by show Int.natAbs 1<4294967296 ^ 2;decide
theorem af.Ba (w:World) (k:Nat):af w (.agg #[.slice none 0 0,.bool false]) 0 k:=by
 refine ⟨none,0,by simp [an,iF],?_,by show (0:Int).natAbs<_;exact Nat.pow_pos (by omega)⟩
 simpa [an,iF] using Sl.nil w .i64
theorem af.Bb {z:Int} (hs:decide (z<0)=b){l:List Value} (h:af w (.agg l.toArray) z k):Value.agg ((l.drop 1).take 1).toArray = .agg #[.bool b]:=by
 obtain ⟨p,c,e,-⟩:=h
 simp only [Value.agg.injEq] at e
 have:l = [.slice p (an 10000 z.natAbs).length c,.bool (decide (z<0))]:=by simpa using e
 rw [this,hs];rfl
section
variable {Φ:PH}{p x:Nat}
theorem Bc {P:Program}{T:TypeId} (hp:∀w v,Φ p w v->Ptr 1 (fun _ v=>v = .agg #[.bool b]) w v) (hT:ia P T=some false:=by kernel_rfl):aj Φ P ⟨0,[.fact p],[oL (.cb b)],.quiet (aI T)⟩:=fun X w ac o xs _ hm ha=>by
 unfold aI at hm
 split at hm
 case h_2=>cases hm
 rename_i t y ho
 split at hm
 case isFalse=>cases hm
 rename_i ht
 subst ht
 simp only [Option.some.injEq] at hm
 subst hm
 obtain ⟨b',off,hv,l,h1,h2,h3⟩:=hp _ _ (ha.1 w (Off.refl _ _))
 obtain rfl:l = [.bool b]:=by simpa using h3
 have hc:=h2 0 _ rfl
 refine ⟨.bool b,w,?_,bh w none,⟨⟨⟨rfl,fun _ h=>by cases h⟩,fun r hr=>by cases hr⟩,trivial⟩⟩
 rw [Nat.add_zero] at hc
 unfold execOp
 simp [ho,hv,Instr.loadAt,Instr.sureAddr,loadVar,ib hT,hc]
end
def vf (q:Nat->Rat) (c:Rat) (n k l K:Nat):List WP:=[Rw 4 (Df q k) n,Dw c l,Nz n,fun w v=>ah 4 44 (fun ι w v=>al w v ((q ι*c)) K) n w v,fun w v=>Rw 4 (fun ι w v=>al w v ((q ι*c)) K) (tl (fun ι=>((q ι*c)).num) n) w v]
def Oo (q:Nat->Rat) (c:Rat) (k l K:Nat) (j:Nat):List WP:=[Nz j,fun w v=>ah 4 44 (fun ι w v=>al w v ((q ι*c)) K) j w v,fun _ _=>True,Ptr 4 (Dw (q j) k),Dw (q j) k,Dw ((q j)*c) (2*(k+l)+2),fun w v=>af w v (((q j)*c).num) (2*(k+l)+2),fun w v=>af w v (((q j)*c).den:Int) (2*(k+l)+2),fun w v=>ah 4 44 (fun ι w v=>al w v ((q ι*c)) K) (j+1) w v,Nz (j+1)]
def Be:bf:=⟨[0,1,3,4,7,8],[(.slot 9,.i),(.slot 5,.s)],[(.one 0,5),(.one 1,.bB [1] 6),(.one 1,.lo 1)],[.closed (.one (.ci .i64 0)),.closed (.one (.nl)),.frm 0],5,[(6,3)]⟩
def Bf:List Step:=[bQ [5,2] oT (ak .lss),bQ [0,5] [oP 8] (aH 24),bQ [8] [oQ 9] (aI 44),.base ⟨28,[9,1],[⟨.agg [.s,.b,.s,.b],[(0,0,10),(0,2,11),(2,2,12)]⟩],false⟩,.base ⟨0,[6,.row 4 [10]],[oS 13],.loose [] 1 0 (eF 24 24)⟩,bQ [5,.lit (.ci .i64 1)] [oN 14] (ak .add)]
def Ot:List Step:=[bQ [5,2] oF (ak .lss)]
def Ou:List Step:=[bQ [0] [oN 2] (aC 24),.loop Be [(Bf,[.frm 14,.frm 13,.frm 0])] Ot,.base ⟨29,[3],[oS 4],.cC [1] false⟩]
def Ov:List Out:=[oS 0,oQ 1]
theorem Ow {q:Nat->Rat}{c:Rat} (hn:n<=1000000) (hk:k<=8000) (hl:l<=8000) (hK:K<=400000) (hB:∀i,i<n->Bd (q i*c).num.natAbs K∧Bd (q i*c).den K):aj (ph (vf q c n k l K)) prog ⟨25,[0,1],[oS 4],false⟩:=aV Ov [oS 4] Ou func25 (by kernel_rfl) (lB (aJ (F:=(Df q k)) underlying24 ad rfl) (bk (counted n (fun j=>ph (vf q c n k l K ++ Oo q c k l K j)) (fun _=>0) (fun j p hp=>bm (show p<(vf q c n k l K).length from hp)) ⟨fun _=>rfl,fun w=>ah.nil 4 44 (fun ι w v=>al w v ((q ι*c)) K) w,aP,trivial⟩ (fun j hj=>by
   skip
   exact ⟨(Bf,[.frm 14,.frm 13,.frm 0]),rfl,⟨ad,ad,aP,trivial⟩,(lB (bT ad ad) (lB (bz (i:=j) (F:=(Df q k)) underlying24 ad ad rfl) (lB (cm (sz:=4) (F:=Dw (q j) k) ad (fun _ _ _ g h=>al.kp h g) (fun _ _ h=>al.is h) rfl) (lB (Bg tS tS rfl rfl rfl rfl) (lB (pS (n:=j) (F:=(fun ι w v=>al w v ((q ι*c)) K)) (fun _ _ _ _ g h=>al.kp h g) ad (fun _ _ h=>al.fX h (hB j (by omega)).1 (hB j (by omega)).2) (fun _ _ h=>al.fQ h) rfl) (lB (ce ad rfl) au))))))⟩) (lB (tlF ad ad) au)
   (fun q hq w v h=>by
    simp only [Be,List.mem_cons,List.not_mem_nil,or_false] at hq
    rcases hq with rfl
    ·exact (fun h=>h) h)) (lB (cS [1] (pT (q:=(fun ι=>(q ι*c))) (n:=n) (k:=K) (fun _ _ h=>ah.rw h) rfl)) au)))
  (aK [.fact 0 (.one (.s)),.fact 1 (.agg [.s,.b,.s,.b])] ⟨Rw.Is 4 (Df q k) n,fun _ _ h=>al.is h,trivial⟩) bg
def vg (z:Nat->Int) (n k:Nat):List WP:=[fun w v=>Rw 4 (fun ι w v=>al w v (((z ι:Int):Rat)) k) n w v,Nz n,ah 2 57 (Nf z k) n]
def Ox (z:Nat->Int) (k:Nat) (j:Nat):List WP:=[Nz j,ah 2 57 (Nf z k) j,fun _ _=>True,Ptr 4 (Dw (((z j:Int):Rat)) k),fun w v=>Ptr 2 (fun w v=>af w v ((((z j:Int):Rat)).num) k) w v,fun w v=>af w v ((((z j:Int):Rat)).num) k,Nw ((((z j:Int):Rat)).num) k,ah 2 57 (Nf z k) (j+1),Nz (j+1)]
def Bh:bf:=⟨[0,2,5,6],[(.slot 7,.i),(.slot 3,.s)],[(.one 0,3),(.one 1,.bB [1] 4),(.one 1,.lo 1)],[.closed (.one (.ci .i64 0)),.closed (.one (.nl)),.frm 0],3,[(4,2)]⟩
def Bi:List Step:=[bQ [3,1] oT (ak .lss),bQ [0,3] [oP 6] (aH 24),bQ [6] [oP 7] (dU 44 0),bQ [7] [oD 8] (aI 42),.base ⟨30,[8],[oI 9],false⟩,.base ⟨0,[4,.row 2 [9]],[oS 10],.loose [] 1 0 (eF 28 28)⟩,bQ [3,.lit (.ci .i64 1)] [oN 11] (ak .add)]
def Oy:List Step:=[bQ [3,1] oF (ak .lss)]
def Oz:List Step:=[bQ [0] [oN 1] (aC 24),.loop Bh [(Bi,[.frm 11,.frm 10,.frm 0])] Oy]
def OA:List Out:=[oS 0]
theorem xto  (hn:n<=1000000) (hk:k<=400000):aj (ph (vg z n k)) prog ⟨8,[0],[oS 2],false⟩:=aV OA [oS 2] Oz func8 (by kernel_rfl) (lB (aJ (F:=(fun ι w v=>al w v (((z ι:Int):Rat)) k)) underlying24 ad rfl) (bk (counted n (fun j=>ph (vg z n k ++ Ox z k j)) (fun _=>0) (fun j p hp=>bm (show p<(vg z n k).length from hp)) ⟨fun _=>rfl,fun w=>ah.nil 2 57 (Nf z k) w,aP,trivial⟩ (fun j hj=>by
   skip
   exact ⟨(Bi,[.frm 11,.frm 10,.frm 0]),rfl,⟨ad,ad,aP,trivial⟩,(lB (bT ad ad) (lB (bz (i:=j) (F:=(fun ι w v=>al w v (((z ι:Int):Rat)) k)) underlying24 ad ad rfl) (lB (ek (off:=0) (len:=2) (sz:=4) (F:=Dw (((z j:Int):Rat)) k) (G:=fun w v=>af w v ((((z j:Int):Rat)).num) k) ad (fun _ _ h=>al.fst' h) rfl) (lB (cm (sz:=2) (F:=fun w v=>af w v ((((z j:Int):Rat)).num) k) ad (fun _ _ _ g h=>af.kp h g) (fun _ _ h=>af.is h) rfl) (lB (tTo dD rfl rfl) (lB (vh (n:=j) (F:=(Nf z k)) (fun _ _ _ _ g h=>ai.kp h g) ad ad (fun _ _ h=>ai.fQ h) rfl) (lB (ce ad rfl) au)))))))⟩) (lB (tlF ad ad) au)
   (fun q hq w v h=>by
    simp only [Bh,List.mem_cons,List.not_mem_nil,or_false] at hq
    rcases hq with rfl
    ·exact (fun h=>h) h)) au))
  (aK [.fact 0 (.one (.s))] ⟨Rw.Is 4 (fun ι w v=>al w v (((z ι:Int):Rat)) k) n,trivial⟩) bg
section
variable {Φ:PH}{p y x:Nat}{q:Nat->Rat}{c:Rat}
theorem Bj (hp:∀w v,Φ p w v->Rw 4 (Df q k) n w v) (hy:∀w v,Φ y w v->al w v c l) (hx:Φ x=fun w v=>Rw 4 (fun i w v=>al w v (q i*c) K) N w v) (hB:∀i,i<n->Bd (q i*c).num.natAbs K∧Bd (q i*c).den K) (hN:tl (fun i=>(q i*c).num) n=N) (hn:n<=1000000:=by omega) (hk:k<=8000:=by omega) (hl:l<=8000:=by omega) (hK:K<=400000:=by omega):aj Φ prog ⟨25,[.fact p,.fact y],[oS x],false⟩:=
 aW (Ow (q:=q) (c:=c) hn hk hl hK hB) ⟨hp,hy,trivial⟩ ⟨⟨rfl,⟨rfl,rfl,fun _ _ h=>hx▸hN▸h⟩,trivial⟩,trivial⟩
theorem lG (hp:∀w v,Φ p w v->Rw 4 (fun i w v=>al w v ((z i:Int):Rat) k) n w v) (hx:Φ x=Rw 2 (Nf z k) n) (hn:n<=1000000:=by omega) (hk:k<=400000:=by omega):aj Φ prog ⟨8,[.fact p],[oS x],false⟩:=
 aW (xto (z:=z) hn hk) ⟨hp,trivial⟩ ⟨⟨rfl,⟨rfl,rfl,fun _ _ h=>hx▸ah.rw (e:=57) h⟩,trivial⟩,trivial⟩
end
def OC  : List WP:=[Dw (aR 0 1) 6,fun w v=>af w v ((aR 0 1).num) 6,fun w v=>af w v ((aR 0 1).den:Int) 6]
def OD:List Step:=[.base ⟨50,[.lit (.ci .i64 0),.lit (.ci .i64 1)],[⟨.agg [.s,.b,.s,.b],[(0,0,0),(0,2,1),(2,2,2)]⟩],false⟩]
def OE:List Out:=[]
theorem OF   : aj (ph (OC )) prog ⟨26,[],[⟨.agg [.s,.b,.s,.b],[(0,0,0),(0,2,1),(2,2,2)]⟩],false⟩:=aV OE [⟨.agg [.s,.b,.s,.b],[(0,0,0),(0,2,1),(2,2,2)]⟩] OD func26 (by kernel_rfl) (lB (vi (z:=0) (y:=1) rfl rfl rfl rfl) au)
  (aK [] trivial) bg
theorem Bk {Φ:PH}{x x1 x2:Nat} (hx:Φ x=Dw (aR 0 1) 6) (hx1:Φ x1=fun w v=>af w v (aR 0 1).num 6) (hx2:Φ x2=fun w v=>af w v ((aR 0 1).den:Int) 6):aj Φ prog ⟨26,[],[⟨sS,[(0,0,x),(0,2,x1),(2,2,x2)]⟩],false⟩:=
 aW OF trivial ⟨⟨rfl,⟨rfl,rfl,fun _ _ h=>hx▸h⟩,⟨rfl,rfl,fun _ _ h=>hx1▸h⟩,⟨rfl,rfl,fun _ _ h=>hx2▸h⟩,trivial⟩,trivial⟩
def OG (z:Nat->Int) (n k:Nat):List WP:=[fun w v=>Rw 4 (fun ι w v=>al w v (((z ι:Int):Rat)) k) n w v,Nz n,Dw (aR 0 1) 6,fun w v=>af w v ((aR 0 1).num) 6,fun w v=>af w v ((aR 0 1).den:Int) 6]
def OH:List Step:=[bQ [0] [oN 1] (aC 24),bQ [1,.lit (.ci .i64 0)] oT (ak .eql),.base ⟨26,[],[⟨.agg [.s,.b,.s,.b],[(0,0,2),(0,2,3),(2,2,4)]⟩],false⟩]
def OI:List Out:=[oS 0]
theorem OJ  (hn0:n=0):aj (ph (OG z n k)) prog ⟨18,[0],[⟨.agg [.s,.b,.s,.b],[(0,0,2),(0,2,3),(2,2,4)]⟩,⟨.one (.lit (.nl)),[]⟩],true⟩:=aV OI [⟨.agg [.s,.b,.s,.b],[(0,0,2),(0,2,3),(2,2,4)]⟩,⟨.one (.lit (.nl)),[]⟩] OH func18 (by kernel_rfl) (lB (aJ (F:=(fun ι w v=>al w v (((z ι:Int):Rat)) k)) underlying24 ad rfl) (lB (ic ad) (lB (Bk rfl rfl rfl) au)))
  (aK [.fact 0 (.one (.s))] ⟨Rw.Is 4 (fun ι w v=>al w v (((z ι:Int):Rat)) k) n,trivial⟩) bg
def pU (z:Nat->Int) (n k K N:Nat) (t u:Rat):List WP:=[fun w v=>Rw 4 (fun ι w v=>al w v (((z ι:Int):Rat)) k) n w v,Nz n,fun w v=>af w v (1:Int) 2,Nz n,fun w v=>af w v (1:Int) 2,Nz n,fun w v=>af w v (bi z n:Int) k,Dw t (k+2+2),fun w v=>af w v t.num (k+2+2),fun w v=>af w v (t.den:Int) (k+2+2),Nz n,Nz (n-1),Ptr 4 (Dw (((z (n-1):Int):Rat)) k),fun w v=>Ptr 2 (fun w v=>af w v ((((z (n-1):Int):Rat)).num) k) w v,fun w v=>Ptr 1 (fun _ v=>v = .agg #[.bool false]) w v,Dw (aR 1 1) 6,fun w v=>af w v ((aR 1 1).num) 6,fun w v=>af w v ((aR 1 1).den:Int) 6,Dw u (2*(6+(k+2+2))+2),fun w v=>af w v u.num (2*(6+(k+2+2))+2),fun w v=>af w v (u.den:Int) (2*(6+(k+2+2))+2),fun w v=>Rw 4 (fun ι w v=>al w v ((((z ι:Int):Rat)*u)) K) N w v]
def OK (z:Nat->Int) (k:Nat) (i:Nat):List WP:=[Nz i,fun w v=>af w v (bi z i:Int) k,Ptr 4 (Dw (((z i:Int):Rat)) k),fun w v=>Ptr 2 (fun w v=>af w v ((((z i:Int):Rat)).num) k) w v,fun w v=>af w v ((((z i:Int):Rat)).num) k,fun w v=>af w v (((((z i:Int):Rat)).num)*(1:Int)) (k+2),Ptr 4 (Dw (((z i:Int):Rat)) k),fun w v=>Ptr 2 (fun w v=>af w v ((((z i:Int):Rat)).den:Int) k) w v,fun w v=>af w v ((((z i:Int):Rat)).den:Int) k,fun w v=>af w v (z i) (k+2),fun w v=>af w v (Int.gcd (bi z i:Int) (z i):Int) (k+2),Nz (i+1)]
def Bl:bf:=⟨[0,2,3,4,6,9,10,11,13,14,15,16,17,35,36],[(.slot 37,.i),(.cell 14 0,.s),(.cell 14 1,.b)],[(.one 0,22),(.agg [1,2],23)],[.closed (.one (.ci .i64 0)),.closed (.agg [.nl,.cb false])],22,[(23,6)]⟩
def Bm:List Step:=[bQ [22,5] oT (ak .lss),bQ [0,22] [oP 24] (aH 24),bQ [24] [oP 25] (dU 44 0),bQ [25] [oD 26] (aI 42),.base ⟨46,[26,4],[oD 27],false⟩,bQ [0,22] [oP 28] (aH 24),bQ [28] [oP 29] (dU 44 1),bQ [29] [oD 30] (aI 42),.base ⟨45,[27,30],[oD 31],false⟩,.base ⟨47,[23,31],[oD 32],false⟩,bQ [22,.lit (.ci .i64 1)] [oN 33] (ak .add)]
def OL:List Step:=[bQ [22,5] oF (ak .lss)]
def OM (z:Nat->Int) (k:Nat) (j:Nat):List WP:=[Nz j,fun w v=>af w v (1:Int) 2,Ptr 4 (Dw (((z j:Int):Rat)) k),fun w v=>Ptr 2 (fun w v=>af w v ((((z j:Int):Rat)).den:Int) k) w v,fun w v=>af w v ((((z j:Int):Rat)).den:Int) k,fun w v=>af w v ((1:Int)*((((z j:Int):Rat)).den:Int)) (2+k),Ptr 4 (Dw (((z j:Int):Rat)) k),fun w v=>Ptr 2 (fun w v=>af w v ((((z j:Int):Rat)).den:Int) k) w v,fun w v=>af w v ((((z j:Int):Rat)).den:Int) k,fun w v=>af w v (Int.gcd (1:Int) ((((z j:Int):Rat)).den:Int):Int) (k+2),fun w v=>af w v (1:Int) (2+k),Nz (j+1)]
def Bn:bf:=⟨[0,2,3,4,9,10,11,13,14,15],[(.slot 16,.i),(.cell 7 0,.s),(.cell 7 1,.b)],[(.one 0,22),(.agg [1,2],23)],[.closed (.one (.ci .i64 0)),.frm 2],22,[(23,4)]⟩
def Bo:List Step:=[bQ [22,3] oT (ak .lss),bQ [0,22] [oP 24] (aH 24),bQ [24] [oP 25] (dU 44 1),bQ [25] [oD 26] (aI 42),.base ⟨46,[23,26],[oD 27],false⟩,bQ [0,22] [oP 28] (aH 24),bQ [28] [oP 29] (dU 44 1),bQ [29] [oD 30] (aI 42),.base ⟨47,[23,30],[oD 31],false⟩,.base ⟨45,[27,31],[oD 32],false⟩,bQ [22,.lit (.ci .i64 1)] [oN 33] (ak .add)]
def ON:List Step:=[bQ [22,3] oF (ak .lss)]
def OP:List Step:=[bQ [0] [oN 1] (aC 24),bQ [1,.lit (.ci .i64 0)] oF (ak .eql),.base ⟨40,[.lit (.ci .i64 1)],[oD 2],false⟩,bQ [0] [oN 3] (aC 24),.loop Bn [(Bo,[.frm 33,.frm 32])] ON,bQ [0] [oN 5] (aC 24),.loop Bl [(Bm,[.frm 33,.frm 32])] OL,.base ⟨38,[6,4],[⟨.agg [.s,.b,.s,.b],[(0,0,7),(0,2,8),(2,2,9)]⟩],false⟩,bQ [0] [oN 10] (aC 24),bQ [10,.lit (.ci .i64 1)] [oN 11] (ak .sub),bQ [0,11] [oP 12] (aH 24),bQ [12] [oP 13] (dU 44 0),bQ [13] [oP 14] (dU 42 1),bQ [14] oF (aI 4),.base ⟨50,[.lit (.ci .i64 1),.lit (.ci .i64 1)],[⟨.agg [.s,.b,.s,.b],[(0,0,15),(0,2,16),(2,2,17)]⟩],false⟩,.base ⟨49,[15,7],[⟨.agg [.s,.b,.s,.b],[(0,0,18),(0,2,19),(2,2,20)]⟩],false⟩,.base ⟨25,[0,18],[oS 21],false⟩]
def OQ:List Out:=[oS 0]
theorem OR  (hn0:0<n) (hn:n<=1000000) (hk:k<=3000) (hK:K<=400000) (hs:decide (z (n-1)<0)=false) (hg:∀i,i<=n->Bd (bi z i) k) (ht:(aR (bi z n:Int) 1)=t) (ht0:t≠0) (hu:aR 1 1 / t=u) (hB:∀i,i<n->Bd (((z i:Int):Rat)*u).num.natAbs K∧Bd (((z i:Int):Rat)*u).den K) (hN:tl (fun i=>(((z i:Int):Rat)*u).num) n=N):aj (ph (pU z n k K N t u)) prog ⟨18,[0],[⟨.agg [.s,.b,.s,.b],[(0,0,7),(0,2,8),(2,2,9)]⟩,oS 21],true⟩:=aV OQ [⟨.agg [.s,.b,.s,.b],[(0,0,7),(0,2,8),(2,2,9)]⟩,oS 21] OP func18 (by kernel_rfl) (lB (aJ (F:=(fun ι w v=>al w v (((z ι:Int):Rat)) k)) underlying24 ad rfl) (lB (dg ad) (lB (og (z:=1) rfl rfl) (lB (aJ (F:=(fun ι w v=>al w v (((z ι:Int):Rat)) k)) underlying24 ad rfl) (bk (counted n (fun j=>ph (pU z n k K N t u ++ OM z k j)) (fun _=>0) (fun j p hp=>bm (show p<(pU z n k K N t u).length from hp)) ⟨fun _=>rfl,ad,trivial⟩ (fun j hj=>by
   skip
   exact ⟨(Bo,[.frm 33,.frm 32]),rfl,⟨ad,fun _ _ h=>af.fX h AY,trivial⟩,(lB (bT ad ad) (lB (bz (i:=j) (F:=(fun ι w v=>al w v (((z ι:Int):Rat)) k)) underlying24 ad ad rfl) (lB (ek (off:=2) (len:=2) (sz:=4) (F:=Dw (((z j:Int):Rat)) k) (G:=fun w v=>af w v ((((z j:Int):Rat)).den:Int) k) ad (fun _ _ h=>al.snd' h) rfl) (lB (cm (sz:=2) (F:=fun w v=>af w v ((((z j:Int):Rat)).den:Int) k) ad (fun _ _ _ g h=>af.kp h g) (fun _ _ h=>af.is h) rfl) (lB (gL dD dD rfl rfl) (lB (bz (i:=j) (F:=(fun ι w v=>al w v (((z ι:Int):Rat)) k)) underlying24 ad ad rfl) (lB (ek (off:=2) (len:=2) (sz:=4) (F:=Dw (((z j:Int):Rat)) k) (G:=fun w v=>af w v ((((z j:Int):Rat)).den:Int) k) ad (fun _ _ h=>al.snd' h) rfl) (lB (cm (sz:=2) (F:=fun w v=>af w v ((((z j:Int):Rat)).den:Int) k) ad (fun _ _ _ g h=>af.kp h g) (fun _ _ h=>af.is h) rfl) (lB (lH (k+2) dD dD rfl rfl) (lB (iG dD dD rfl (by show ((Int.gcd 1 1:Nat):Int)≠0;decide) (by show ((Int.gcd 1 1:Nat):Int)∣1*1;decide) (by show (1*1:Int) / ((Int.gcd 1 1:Nat):Int)=1;decide)) (lB (ce ad rfl) au)))))))))))⟩) (lB (tlF ad ad) au)
   (fun q hq w v h=>by
    simp only [Bn,List.mem_cons,List.not_mem_nil,or_false] at hq
    rcases hq with rfl
    ·exact (fun h=>h) h)) (lB (aJ (F:=(fun ι w v=>al w v (((z ι:Int):Rat)) k)) underlying24 ad rfl) (bk (counted n (fun i=>ph (pU z n k K N t u ++ OK z k i)) (fun _=>0) (fun i p hp=>bm (show p<(pU z n k K N t u).length from hp)) ⟨fun _=>rfl,fun w=>af.Ba w k,trivial⟩ (fun i hi=>by
   skip
   exact ⟨(Bm,[.frm 33,.frm 32]),rfl,⟨ad,fun _ _ h=>af.fX h (hg (i+1) (by omega)),trivial⟩,(lB (bT ad ad) (lB (bz (i:=i) (F:=(fun ι w v=>al w v (((z ι:Int):Rat)) k)) underlying24 ad ad rfl) (lB (ek (off:=0) (len:=2) (sz:=4) (F:=Dw (((z i:Int):Rat)) k) (G:=fun w v=>af w v ((((z i:Int):Rat)).num) k) ad (fun _ _ h=>al.fst' h) rfl) (lB (cm (sz:=2) (F:=fun w v=>af w v ((((z i:Int):Rat)).num) k) ad (fun _ _ _ g h=>af.kp h g) (fun _ _ h=>af.is h) rfl) (lB (gL dD dD rfl rfl) (lB (bz (i:=i) (F:=(fun ι w v=>al w v (((z ι:Int):Rat)) k)) underlying24 ad ad rfl) (lB (ek (off:=2) (len:=2) (sz:=4) (F:=Dw (((z i:Int):Rat)) k) (G:=fun w v=>af w v ((((z i:Int):Rat)).den:Int) k) ad (fun _ _ h=>al.snd' h) rfl) (lB (cm (sz:=2) (F:=fun w v=>af w v ((((z i:Int):Rat)).den:Int) k) ad (fun _ _ _ g h=>af.kp h g) (fun _ _ h=>af.is h) rfl) (lB (iG dD dD rfl (by show ((1:Nat):Int)≠0;decide) (by show ((1:Nat):Int)∣z i*1;exact Int.one_dvd _) (by show z i*1 / ((1:Nat):Int)=z i;rw [Int.mul_one];exact Int.ediv_one _)) (lB (lH (k+2) dD dD rfl rfl) (lB (ce ad rfl) au)))))))))))⟩) (lB (tlF ad ad) au)
   (fun q hq w v h=>by
    simp only [Bl,List.mem_cons,List.not_mem_nil,or_false] at hq
    rcases hq with rfl
    ·exact (fun h=>h) h)) (lB (kH dD dD rfl rfl rfl (ht)) (lB (aJ (F:=(fun ι w v=>al w v (((z ι:Int):Rat)) k)) underlying24 ad rfl) (lB (bO ad rfl) (lB (bz (i:=(n-1)) (F:=(fun ι w v=>al w v (((z ι:Int):Rat)) k)) underlying24 ad ad rfl) (lB (ek (off:=0) (len:=2) (sz:=4) (F:=Dw (((z (n-1):Int):Rat)) k) (G:=fun w v=>af w v ((((z (n-1):Int):Rat)).num) k) ad (fun _ _ h=>al.fst' h) rfl) (lB (ek (off:=1) (len:=1) (sz:=2) (F:=fun w v=>af w v ((((z (n-1):Int):Rat)).num) k) (G:=fun _ v=>v = .agg #[.bool false]) ad (fun _ _ h=>af.Bb hs h) rfl) (lB (Bc ad) (lB (vi (z:=1) (y:=1) rfl rfl rfl rfl) (lB (Bp tS tS rfl rfl rfl (ht0) (hu)) (lB (Bj (q:=(fun i=>((z i:Int):Rat))) (c:=u) (n:=n) (K:=K) ad tS rfl hB hN) au)))))))))))))))))
  (aK [.fact 0 (.one (.s))] ⟨Rw.Is 4 (fun ι w v=>al w v (((z ι:Int):Rat)) k) n,trivial⟩) bg
def pV (z:Nat->Int) (n k K N:Nat) (t u:Rat):List WP:=[fun w v=>Rw 4 (fun ι w v=>al w v (((z ι:Int):Rat)) k) n w v,Nz n,fun w v=>af w v (1:Int) 2,Nz n,fun w v=>af w v (1:Int) 2,Nz n,fun w v=>af w v (bi z n:Int) k,Dw (aR (bi z n:Int) 1) (k+2+2),fun w v=>af w v ((aR (bi z n:Int) 1).num) (k+2+2),fun w v=>af w v ((aR (bi z n:Int) 1).den:Int) (k+2+2),Nz n,Nz (n-1),Ptr 4 (Dw (((z (n-1):Int):Rat)) k),fun w v=>Ptr 2 (fun w v=>af w v ((((z (n-1):Int):Rat)).num) k) w v,fun w v=>Ptr 1 (fun _ v=>v = .agg #[.bool true]) w v,Dw t (k+2+2),fun w v=>af w v t.num (k+2+2),fun w v=>af w v (t.den:Int) (k+2+2),Dw (aR 1 1) 6,fun w v=>af w v ((aR 1 1).num) 6,fun w v=>af w v ((aR 1 1).den:Int) 6,Dw u (2*(6+(k+2+2))+2),fun w v=>af w v u.num (2*(6+(k+2+2))+2),fun w v=>af w v (u.den:Int) (2*(6+(k+2+2))+2),fun w v=>Rw 4 (fun ι w v=>al w v ((((z ι:Int):Rat)*u)) K) N w v]
def OS (z:Nat->Int) (k:Nat) (i:Nat):List WP:=[Nz i,fun w v=>af w v (bi z i:Int) k,Ptr 4 (Dw (((z i:Int):Rat)) k),fun w v=>Ptr 2 (fun w v=>af w v ((((z i:Int):Rat)).num) k) w v,fun w v=>af w v ((((z i:Int):Rat)).num) k,fun w v=>af w v (((((z i:Int):Rat)).num)*(1:Int)) (k+2),Ptr 4 (Dw (((z i:Int):Rat)) k),fun w v=>Ptr 2 (fun w v=>af w v ((((z i:Int):Rat)).den:Int) k) w v,fun w v=>af w v ((((z i:Int):Rat)).den:Int) k,fun w v=>af w v (z i) (k+2),fun w v=>af w v (Int.gcd (bi z i:Int) (z i):Int) (k+2),Nz (i+1)]
def Br:bf:=⟨[0,2,3,4,6,9,10,11,13,14,15,16,17,35,36],[(.slot 37,.i),(.cell 14 0,.s),(.cell 14 1,.b)],[(.one 0,25),(.agg [1,2],26)],[.closed (.one (.ci .i64 0)),.closed (.agg [.nl,.cb false])],25,[(26,6)]⟩
def Bs:List Step:=[bQ [25,5] oT (ak .lss),bQ [0,25] [oP 27] (aH 24),bQ [27] [oP 28] (dU 44 0),bQ [28] [oD 29] (aI 42),.base ⟨46,[29,4],[oD 30],false⟩,bQ [0,25] [oP 31] (aH 24),bQ [31] [oP 32] (dU 44 1),bQ [32] [oD 33] (aI 42),.base ⟨45,[30,33],[oD 34],false⟩,.base ⟨47,[26,34],[oD 35],false⟩,bQ [25,.lit (.ci .i64 1)] [oN 36] (ak .add)]
def OT:List Step:=[bQ [25,5] oF (ak .lss)]
def OU (z:Nat->Int) (k:Nat) (j:Nat):List WP:=[Nz j,fun w v=>af w v (1:Int) 2,Ptr 4 (Dw (((z j:Int):Rat)) k),fun w v=>Ptr 2 (fun w v=>af w v ((((z j:Int):Rat)).den:Int) k) w v,fun w v=>af w v ((((z j:Int):Rat)).den:Int) k,fun w v=>af w v ((1:Int)*((((z j:Int):Rat)).den:Int)) (2+k),Ptr 4 (Dw (((z j:Int):Rat)) k),fun w v=>Ptr 2 (fun w v=>af w v ((((z j:Int):Rat)).den:Int) k) w v,fun w v=>af w v ((((z j:Int):Rat)).den:Int) k,fun w v=>af w v (Int.gcd (1:Int) ((((z j:Int):Rat)).den:Int):Int) (k+2),fun w v=>af w v (1:Int) (2+k),Nz (j+1)]
def Bu:bf:=⟨[0,2,3,4,9,10,11,13,14,15],[(.slot 16,.i),(.cell 7 0,.s),(.cell 7 1,.b)],[(.one 0,25),(.agg [1,2],26)],[.closed (.one (.ci .i64 0)),.frm 2],25,[(26,4)]⟩
def Bv:List Step:=[bQ [25,3] oT (ak .lss),bQ [0,25] [oP 27] (aH 24),bQ [27] [oP 28] (dU 44 1),bQ [28] [oD 29] (aI 42),.base ⟨46,[26,29],[oD 30],false⟩,bQ [0,25] [oP 31] (aH 24),bQ [31] [oP 32] (dU 44 1),bQ [32] [oD 33] (aI 42),.base ⟨47,[26,33],[oD 34],false⟩,.base ⟨45,[30,34],[oD 35],false⟩,bQ [25,.lit (.ci .i64 1)] [oN 36] (ak .add)]
def OV:List Step:=[bQ [25,3] oF (ak .lss)]
def OW:List Step:=[bQ [0] [oN 1] (aC 24),bQ [1,.lit (.ci .i64 0)] oF (ak .eql),.base ⟨40,[.lit (.ci .i64 1)],[oD 2],false⟩,bQ [0] [oN 3] (aC 24),.loop Bu [(Bv,[.frm 36,.frm 35])] OV,bQ [0] [oN 5] (aC 24),.loop Br [(Bs,[.frm 36,.frm 35])] OT,.base ⟨38,[6,4],[⟨.agg [.s,.b,.s,.b],[(0,0,7),(0,2,8),(2,2,9)]⟩],false⟩,bQ [0] [oN 10] (aC 24),bQ [10,.lit (.ci .i64 1)] [oN 11] (ak .sub),bQ [0,11] [oP 12] (aH 24),bQ [12] [oP 13] (dU 44 0),bQ [13] [oP 14] (dU 42 1),bQ [14] oT (aI 4),.base ⟨48,[7],[⟨.agg [.s,.b,.s,.b],[(0,0,15),(0,2,16),(2,2,17)]⟩],false⟩,.base ⟨50,[.lit (.ci .i64 1),.lit (.ci .i64 1)],[⟨.agg [.s,.b,.s,.b],[(0,0,18),(0,2,19),(2,2,20)]⟩],false⟩,.base ⟨49,[18,15],[⟨.agg [.s,.b,.s,.b],[(0,0,21),(0,2,22),(2,2,23)]⟩],false⟩,.base ⟨25,[0,21],[oS 24],false⟩]
def OZ:List Out:=[oS 0]
theorem Pa  (hn0:0<n) (hn:n<=1000000) (hk:k<=3000) (hK:K<=400000) (hs:decide (z (n-1)<0)=true) (hg:∀i,i<=n->Bd (bi z i) k) (ht : -(aR (bi z n:Int) 1)=t) (ht0:t≠0) (hu:aR 1 1 / t=u) (hB:∀i,i<n->Bd (((z i:Int):Rat)*u).num.natAbs K∧Bd (((z i:Int):Rat)*u).den K) (hN:tl (fun i=>(((z i:Int):Rat)*u).num) n=N):aj (ph (pV z n k K N t u)) prog ⟨18,[0],[⟨.agg [.s,.b,.s,.b],[(0,0,15),(0,2,16),(2,2,17)]⟩,oS 24],true⟩:=aV OZ [⟨.agg [.s,.b,.s,.b],[(0,0,15),(0,2,16),(2,2,17)]⟩,oS 24] OW func18 (by kernel_rfl) (lB (aJ (F:=(fun ι w v=>al w v (((z ι:Int):Rat)) k)) underlying24 ad rfl) (lB (dg ad) (lB (og (z:=1) rfl rfl) (lB (aJ (F:=(fun ι w v=>al w v (((z ι:Int):Rat)) k)) underlying24 ad rfl) (bk (counted n (fun j=>ph (pV z n k K N t u ++ OU z k j)) (fun _=>0) (fun j p hp=>bm (show p<(pV z n k K N t u).length from hp)) ⟨fun _=>rfl,ad,trivial⟩ (fun j hj=>by
   skip
   exact ⟨(Bv,[.frm 36,.frm 35]),rfl,⟨ad,fun _ _ h=>af.fX h AY,trivial⟩,(lB (bT ad ad) (lB (bz (i:=j) (F:=(fun ι w v=>al w v (((z ι:Int):Rat)) k)) underlying24 ad ad rfl) (lB (ek (off:=2) (len:=2) (sz:=4) (F:=Dw (((z j:Int):Rat)) k) (G:=fun w v=>af w v ((((z j:Int):Rat)).den:Int) k) ad (fun _ _ h=>al.snd' h) rfl) (lB (cm (sz:=2) (F:=fun w v=>af w v ((((z j:Int):Rat)).den:Int) k) ad (fun _ _ _ g h=>af.kp h g) (fun _ _ h=>af.is h) rfl) (lB (gL dD dD rfl rfl) (lB (bz (i:=j) (F:=(fun ι w v=>al w v (((z ι:Int):Rat)) k)) underlying24 ad ad rfl) (lB (ek (off:=2) (len:=2) (sz:=4) (F:=Dw (((z j:Int):Rat)) k) (G:=fun w v=>af w v ((((z j:Int):Rat)).den:Int) k) ad (fun _ _ h=>al.snd' h) rfl) (lB (cm (sz:=2) (F:=fun w v=>af w v ((((z j:Int):Rat)).den:Int) k) ad (fun _ _ _ g h=>af.kp h g) (fun _ _ h=>af.is h) rfl) (lB (lH (k+2) dD dD rfl rfl) (lB (iG dD dD rfl (by show ((Int.gcd 1 1:Nat):Int)≠0;decide) (by show ((Int.gcd 1 1:Nat):Int)∣1*1;decide) (by show (1*1:Int) / ((Int.gcd 1 1:Nat):Int)=1;decide)) (lB (ce ad rfl) au)))))))))))⟩) (lB (tlF ad ad) au)
   (fun q hq w v h=>by
    simp only [Bu,List.mem_cons,List.not_mem_nil,or_false] at hq
    rcases hq with rfl
    ·exact (fun h=>h) h)) (lB (aJ (F:=(fun ι w v=>al w v (((z ι:Int):Rat)) k)) underlying24 ad rfl) (bk (counted n (fun i=>ph (pV z n k K N t u ++ OS z k i)) (fun _=>0) (fun i p hp=>bm (show p<(pV z n k K N t u).length from hp)) ⟨fun _=>rfl,fun w=>af.Ba w k,trivial⟩ (fun i hi=>by
   skip
   exact ⟨(Bs,[.frm 36,.frm 35]),rfl,⟨ad,fun _ _ h=>af.fX h (hg (i+1) (by omega)),trivial⟩,(lB (bT ad ad) (lB (bz (i:=i) (F:=(fun ι w v=>al w v (((z ι:Int):Rat)) k)) underlying24 ad ad rfl) (lB (ek (off:=0) (len:=2) (sz:=4) (F:=Dw (((z i:Int):Rat)) k) (G:=fun w v=>af w v ((((z i:Int):Rat)).num) k) ad (fun _ _ h=>al.fst' h) rfl) (lB (cm (sz:=2) (F:=fun w v=>af w v ((((z i:Int):Rat)).num) k) ad (fun _ _ _ g h=>af.kp h g) (fun _ _ h=>af.is h) rfl) (lB (gL dD dD rfl rfl) (lB (bz (i:=i) (F:=(fun ι w v=>al w v (((z ι:Int):Rat)) k)) underlying24 ad ad rfl) (lB (ek (off:=2) (len:=2) (sz:=4) (F:=Dw (((z i:Int):Rat)) k) (G:=fun w v=>af w v ((((z i:Int):Rat)).den:Int) k) ad (fun _ _ h=>al.snd' h) rfl) (lB (cm (sz:=2) (F:=fun w v=>af w v ((((z i:Int):Rat)).den:Int) k) ad (fun _ _ _ g h=>af.kp h g) (fun _ _ h=>af.is h) rfl) (lB (iG dD dD rfl (by show ((1:Nat):Int)≠0;decide) (by show ((1:Nat):Int)∣z i*1;exact Int.one_dvd _) (by show z i*1 / ((1:Nat):Int)=z i;rw [Int.mul_one];exact Int.ediv_one _)) (lB (lH (k+2) dD dD rfl rfl) (lB (ce ad rfl) au)))))))))))⟩) (lB (tlF ad ad) au)
   (fun q hq w v h=>by
    simp only [Br,List.mem_cons,List.not_mem_nil,or_false] at hq
    rcases hq with rfl
    ·exact (fun h=>h) h)) (lB (kH dD dD rfl rfl rfl (rfl)) (lB (aJ (F:=(fun ι w v=>al w v (((z ι:Int):Rat)) k)) underlying24 ad rfl) (lB (bO ad rfl) (lB (bz (i:=(n-1)) (F:=(fun ι w v=>al w v (((z ι:Int):Rat)) k)) underlying24 ad ad rfl) (lB (ek (off:=0) (len:=2) (sz:=4) (F:=Dw (((z (n-1):Int):Rat)) k) (G:=fun w v=>af w v ((((z (n-1):Int):Rat)).num) k) ad (fun _ _ h=>al.fst' h) rfl) (lB (ek (off:=1) (len:=1) (sz:=2) (F:=fun w v=>af w v ((((z (n-1):Int):Rat)).num) k) (G:=fun _ v=>v = .agg #[.bool true]) ad (fun _ _ h=>af.Bb hs h) rfl) (lB (Bc ad) (lB (Pb tS rfl rfl rfl (ht)) (lB (vi (z:=1) (y:=1) rfl rfl rfl rfl) (lB (Bp tS tS rfl rfl rfl (ht0) (hu)) (lB (Bj (q:=(fun i=>((z i:Int):Rat))) (c:=u) (n:=n) (K:=K) ad tS rfl hB hN) au))))))))))))))))))
  (aK [.fact 0 (.one (.s))] ⟨Rw.Is 4 (fun ι w v=>al w v (((z ι:Int):Rat)) k) n,trivial⟩) bg
section
variable {Φ:PH}{p q y x x1 x2 m:Nat}{c:Int}{a:Bool}{xs:List Nat}
theorem lI  (h:1<=k:=by omega):Bd 1 k:=Nat.one_lt_pow (by omega) (by omega)
theorem Bw (hk:0<4294967296 ^ k):∀{n:Nat},(∀i,i<n->Bd (z i).natAbs k)->Bd (bi z n) k
 | 0,_=>hk
 | n+1,h=>by
  rw [bi]
  rcases Nat.eq_zero_or_pos (z n).natAbs with h1 | h1
  ·rw [h1,Nat.gcd_zero_right];exact Bw hk fun i hi=>h i (by omega)
  ·exact Nat.lt_of_le_of_lt (Nat.le_of_dvd h1 (Nat.gcd_dvd_right _ _)) (h n (by omega))
theorem jG {f:Nat->Int}:∀{n:Nat},(0<n->f (n-1)≠0)->tl f n=n
 | 0,_=>rfl
 | n+1,h=>by
  unfold tl
  rw [if_neg (show ¬f n=0 from h (by omega))]
theorem Pc {P:List Int} (hp:∀w v,Φ p w v->Rw 4 (fun i w v=>al w v ((z i:Int):Rat) k) n w v) (hx:Φ x=Dw ((ba z n:Int):Rat) (k+2+2)) (hx1:Φ x1=fun w v=>af w v ((ba z n:Int):Rat).num (k+2+2)) (hx2:Φ x2=fun w v=>af w v (((ba z n:Int):Rat).den:Int) (k+2+2)) (hy:Φ y=fun w v=>Rw 4 (fun i w v=>al w v ((ae P i:Int):Rat) K) P.length w v) (hkK:k<=K) (htl:tl z n=n) (hB:∀i,i<n->Bd (z i).natAbs k) (hP:dvL z n (ba z n)=P) (hn:n<=1000000:=by omega) (hk:k<=3000:=by omega) (hK1:1<=K:=by omega) (hK:K<=400000:=by omega):aj Φ prog ⟨18,[.fact p],[⟨.agg [.s,.b,.s,.b],[(0,0,x),(0,2,x1),(2,2,x2)]⟩,oS y],true⟩:=by
 rcases Nat.eq_zero_or_pos n with h0 | h0
 ·subst h0
  have e:ba z 0=0:=rfl
  have e1:P = []:=by rw [<- hP];rfl
  subst e1
  have hQ:∀w v,al w v (aR 0 1) 6->al w v ((ba z 0:Int):Rat) (k+2+2):=fun w v h=>al.fX (al.eq h (by rw [e];exact jH 0)) (by rw [e];exact Nat.pow_pos (by omega)) (lI)
  have Pd:∀w v,af w v (aR 0 1).num 6->af w v ((ba z 0:Int):Rat).num (k+2+2):=fun w v h=>af.fX (af.fl h (by rw [e,jH])) (by rw [e];exact Nat.pow_pos (by omega))
  have hQ2:∀w v,af w v ((aR 0 1).den:Int) 6->af w v (((ba z 0:Int):Rat).den:Int) (k+2+2):=fun w v h=>af.fX (af.fl h (by rw [jH];rfl)) (lI)
  intro X w vs hX ha
  refine (aW (Φ:=Φ) (ar:=[.fact p]) (outs:=[⟨.agg [.s,.b,.s,.b],[(0,0,x),(0,2,x1),(2,2,x2)]⟩,⟨.one (.lit .nl),[]⟩]) (OJ (z:=z) (n:=0) (k:=k) rfl) ⟨hp,trivial⟩ ⟨⟨rfl,⟨rfl,rfl,fun w v h=>hx▸hQ w v h⟩,⟨rfl,rfl,fun w v h=>hx1▸Pd w v h⟩,⟨rfl,rfl,fun w v h=>hx2▸hQ2 w v h⟩,trivial⟩,⟨rfl,trivial⟩,trivial⟩ X w vs hX ha).mono fun e w' ⟨hg,us,he,h2⟩=>⟨hg,us,he,?_⟩
  match us,h2 with
  | [u0,u],h2=>
   have e:u = .slice none 0 0:=h2.2.1.1.1
   subst e
   exact ⟨h2.1,cL ⟨⟨_,_,_,rfl⟩,fun _ h=>by cases h⟩ hy fun w1 _=>Rw.nil _ _ _⟩
 have hl:z (n-1)≠0:=by
  have:=fb z n (by omega)
  rwa [htl] at this
 have hld:dc z n=z (n-1):=by rw [dc,if_neg (by omega),htl]
 have hc0:ba z n≠0:=rQ (by omega)
 have hcq:((ba z n:Int):Rat)≠0:=fun h=>hc0 (by have:=congrArg Rat.num h;exact this)
 have hd:∀i,i<n->((z i:Int):Rat)*(aR 1 1 / ((ba z n:Int):Rat))=((z i / ba z n:Int):Rat):=fun i hi=>by
  obtain ⟨d,hd⟩:=nX (z:=z) i hi
  have e1:aR 1 1=(1:Rat):=jH 1
  rw [e1,hd,Int.mul_ediv_cancel_left _ hc0,Rat.intCast_mul,Rat.div_def,Rat.one_mul,Rat.mul_comm ((ba z n:Int):Rat),Rat.mul_assoc,Rat.mul_inv_cancel _ hcq,Rat.mul_one]
 have hle:∀i,i<n->(z i / ba z n).natAbs<=(z i).natAbs:=fun i hi=>by
  obtain ⟨d,hd⟩:=nX (z:=z) i hi
  rw [hd,Int.mul_ediv_cancel_left _ hc0,Int.natAbs_mul]
  exact Nat.le_mul_of_pos_left _ (Int.natAbs_pos.2 hc0)
 have hg:∀i,i<=n->Bd (bi z i:Int).natAbs k:=fun i hi=>Bw (Nat.pow_pos (by omega)) fun j hj=>hB j (by omega)
 have hB':∀i,i<n->Bd (((z i:Int):Rat)*(aR 1 1 / ((ba z n:Int):Rat))).num.natAbs K∧Bd (((z i:Int):Rat)*(aR 1 1 / ((ba z n:Int):Rat))).den K:=fun i hi=>by
  rw [hd i hi]
  exact ⟨Nat.lt_of_le_of_lt (hle i hi) ((hB i hi).more hkK),lI (h:=hK1)⟩
 have hPl:P.length=n:=by rw [<- hP,dvL,gI,htl]
 have hN:tl (fun i=>(((z i:Int):Rat)*(aR 1 1 / ((ba z n:Int):Rat))).num) n=P.length:=by
  rw [hPl]
  refine jG fun _=>?_
  show (((z (n-1):Int):Rat)*(aR 1 1 / ((ba z n:Int):Rat))).num≠0
  rw [hd _ (by omega)]
  intro h
  have h:z (n-1) / ba z n=0:=h
  obtain ⟨d,hd⟩:=nX (z:=z) (n:=n) (n-1) (by omega)
  rw [hd,Int.mul_ediv_cancel_left _ hc0] at h
  rw [h,Int.mul_zero] at hd
  exact hl hd
 have hrow:∀w v,Rw 4 (fun i w v=>al w v (((z i:Int):Rat)*(aR 1 1 / ((ba z n:Int):Rat))) K) P.length w v->Rw 4 (fun i w v=>al w v ((ae P i:Int):Rat) K) P.length w v:=fun w v h=>Rw.to (sz:=4) (n:=P.length) (F:=fun i w v=>al w v (((z i:Int):Rat)*(aR 1 1 / ((ba z n:Int):Rat))) K) h fun i w v hi h=>al.eq h (by
  rw [hPl] at hi
  rw [hd i hi,<- hP,dvL,eG,htl,if_pos hi])
 by_cases hs:z (n-1)<0
 ·have e:ba z n = -(bi z n:Int):=by rw [ba,hld,if_pos hs]
  exact aW (Φ:=Φ) (Pa (z:=z) (n:=n) (k:=k) (K:=K) (N:=P.length) (t:=((ba z n:Int):Rat)) (u:=aR 1 1 / ((ba z n:Int):Rat)) h0 hn hk hK (decide_eq_true hs) hg (by rw [jH,e,Rat.intCast_neg]) hcq rfl hB' hN) ⟨hp,trivial⟩ ⟨⟨rfl,⟨rfl,rfl,fun w v h=>hx▸h⟩,⟨rfl,rfl,fun w v h=>hx1▸h⟩,⟨rfl,rfl,fun w v h=>hx2▸h⟩,trivial⟩,⟨rfl,⟨rfl,rfl,fun w v h=>hy▸hrow w v h⟩,trivial⟩,trivial⟩
 ·have e:ba z n=(bi z n:Int):=by rw [ba,hld,if_neg hs]
  exact aW (Φ:=Φ) (OR (z:=z) (n:=n) (k:=k) (K:=K) (N:=P.length) (t:=((ba z n:Int):Rat)) (u:=aR 1 1 / ((ba z n:Int):Rat)) h0 hn hk hK (decide_eq_false hs) hg (by rw [jH,e]) hcq rfl hB' hN) ⟨hp,trivial⟩ ⟨⟨rfl,⟨rfl,rfl,fun w v h=>hx▸h⟩,⟨rfl,rfl,fun w v h=>hx1▸h⟩,⟨rfl,rfl,fun w v h=>hx2▸h⟩,trivial⟩,⟨rfl,⟨rfl,rfl,fun w v h=>hy▸hrow w v h⟩,trivial⟩,trivial⟩
end
end Go.Proofs.YtomamliepbhegaaGreat.Sym
