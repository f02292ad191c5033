/- poly.trim told with the -/
import Derived.Test.YtomamliepbhegaaGreatPolH
import Derived.Test.YtomamliepbhegaaGreatPolW
set_option maxRecDepth 100000
namespace Go.Proofs.YtomamliepbhegaaGreat.Sym
open Go.Proofs.Tryz
open Go.RowKit
variable {c0 k m n n0 sz:Nat}{c:Int}{e:TypeId}{F:PH}{w:World}{z:Nat->Int}{s0:Option Addr}
def df (s:Option Addr) (c sz:Nat) (F:PH) (n:Nat) (w:World) (v:Value):Prop:=v = .slice s n c∧Rw sz F n w v
theorem NH :∀{rows:List (List Value)},(∀r,r ∈ rows->r.length=sz)->m<=rows.length->rows.flatten.take (m*sz)=(rows.take m).flatten:=fun {rows} h hm=>by
 have e1:rows.flatten=(rows.take m).flatten ++ (rows.drop m).flatten:=by
  rw [<- List.flatten_append,List.take_append_drop]
 have e2:(rows.take m).flatten.length=m*sz:=by
  rw [nS (sz:=sz) (fun r hr=>h r (List.mem_of_mem_take hr)),List.length_take,Nat.min_eq_left hm]
 rw [e1,<- e2,List.take_left]
theorem ah.take {c:Nat}{s:Option Addr} (h:ah sz e F n w (.slice s n c)) (hm:m<=n):ah sz e F m w (.slice s m c):=by
 obtain ⟨rows,hl,hs,ho,hF⟩:=h
 refine ⟨rows.take m,by rw [List.length_take];omega,fun r hr=>hs r (List.mem_of_mem_take hr),⟨⟨by rw [nS (sz:=sz) (fun r hr=>hs r (List.mem_of_mem_take hr)),List.length_take,Nat.min_eq_left (by omega)],?_⟩,fun g cur e' p hg hh x hx=>ho.2 g cur e' p ?_ hh x hx⟩,fun i r hr=>hF i r ?_⟩
 ·rcases ho.1.2 with ⟨h1,h2⟩ | ⟨g,cap,cur,h1,hb,hh,h3,h4,h5,h6⟩
  ·simp only [Value.slice.injEq] at h1
   obtain ⟨rfl,rfl,rfl⟩:=h1
   exact .inl ⟨by rw [show m=0 by omega],by omega⟩
  ·simp only [Value.slice.injEq] at h1
   obtain ⟨rfl,-,rfl⟩:=h1
   refine .inr ⟨g,c,cur,rfl,hb,hh,by omega,h4,h5,?_⟩
   rw [<- NH hs (by omega),<- h6,List.take_take,Nat.min_eq_left (Nat.mul_le_mul_right _ hm)]
 ·simp only [Value.ownBlock] at hg ⊢
  cases s <;> exact hg
 ·rw [List.getElem?_take] at hr
  split at hr
  ·exact hr
  ·cases hr
section
variable {P:Program}{Φ:PH}{p q x:Nat}{a b:Int}
theorem pQ {T:TypeId} (hT:P.underlying T=some (.slice e)) (hz:ee P e=some sz) (hp:∀w v,Φ p w v->df s0 c0 sz F n w v) (hq:∀w v,Φ q w v->v = .int .i64 (m:Int)) (hm':m<=n) (hx:Φ x=df s0 c0 sz F m):aj Φ P ⟨0,[.fact p,.fact q],[oS x],.quiet (ec T)⟩:=fun X w ac o xs _ hm ha=>by
 unfold ec at hm
 split at hm
 case h_2=>cases hm
 rename_i t y z ho
 split at hm
 case isFalse=>cases hm
 rename_i ht
 subst ht
 simp only [Option.some.injEq] at hm
 subst hm
 obtain ⟨hv,s,c,hv',hc,he⟩:=hp _ _ (ha.1 w (Off.refl _ _))
 rw [hv] at hv'
 simp only [Value.slice.injEq,true_and] at hv'
 obtain ⟨rfl,rfl⟩:=hv'
 have hi2:=hq _ _ (ha.2.1 w (Off.refl _ _))
 refine ⟨.slice s0 m c0,w,?_,bh w none,cL ⟨⟨_,_,_,rfl⟩,fun _ h=>by cases h⟩ hx fun w1 hw=>⟨rfl,?_⟩⟩
 ·unfold execOp
  have h0:(0:Int)<=(m:Int):=Int.natCast_nonneg m
  have h1:(m:Int)<=(c0:Int):=by omega
  have ha0:(s0.map fun y=>y.add 0)=s0:=by cases s0 <;> simp [Addr.add_zero']
  simp only [ho,Option.map_none,Option.map_some,hv,hi2]
  simp [Instr.sliceAt,Instr.slice,run_underlying hT,Instr.sliceBounds,run_sliceBound (P:=P) w .i64 (m:Int) c0 .sliceAcap h0 h1,run_sizeOf hz,ha0]
 ·obtain ⟨hv1,s',c',hv',hc',he'⟩:=hp _ _ (ha.1 w1 hw)
  rw [hv1] at hv'
  simp only [Value.slice.injEq,true_and] at hv'
  obtain ⟨rfl,rfl⟩:=hv'
  exact ⟨s0,c0,rfl,by omega,fun i hi=>he' i (by omega)⟩
theorem AP  (hp:∀w v,Φ p w v->v = .int .i64 a) (hq:∀w v,Φ q w v->v = .int .i64 b) (hc:(if b<a then b else a)=c) (hx:Φ x=Ni c):aj Φ P ⟨0,[.fact p,.fact q],[oN x],.quiet (hO .min)⟩:=fun X w ac o xs _ hm ha=>by
 obtain ⟨args,ts,ho,rfl⟩:=rT hm
 obtain ⟨u,v,huv⟩:∃u v,args.toList.map ac.eval = [u,v]:=by
  match args.toList.map ac.eval,ha with
  | [u,v],_=>exact ⟨u,v,rfl⟩
 rw [huv] at ha
 obtain ⟨y,z,rfl,h1,h2⟩:=rU huv
 have e1:=hp _ _ (ha.1 w (Off.refl _ _))
 have e2:=hq _ _ (ha.2.1 w (Off.refl _ _))
 refine ⟨.int .i64 c,w,?_,bh w none,cL (fa c) hx fun _ _=>rfl⟩
 unfold execOp
 simp [ho,resolve,invoke,builtin,h1,h2,e1,e2,run_min_int2,hc]
theorem lD  (hp:∀w v,Φ p w v->v = .int .i64 a) (hq:∀w v,Φ q w v->v = .int .i64 b) (hx:Φ x=Ni c) (hc:a-b=c:=by omega) (h1:-9223372036854775808<=c:=by omega) (h2:c<=9223372036854775807:=by omega):aj Φ P ⟨0,[.fact p,.fact q],[oN x],.quiet (ak .sub)⟩:=fun X w ac o xs _ hm ha=>by
 obtain ⟨t,y,z,yt,ho,rfl⟩:=nY hm
 refine ⟨.int .i64 c,w,?_,bh w none,cL (fa c) hx fun _ _=>rfl⟩
 refine mB ho (hp _ _ (ha.1 w (Off.refl _ _))) (hq _ _ (ha.2.1 w (Off.refl _ _))) ?_
 subst hc
 simp [binOp,Op.intArith,IntWalk.i64_in _ ⟨h1,h2⟩]
theorem uS  (hp:∀w v,Φ p w v->v = .int .i64 b) (hc:(if b > a then b else a)=c) (hx:Φ x=Ni c):aj Φ P ⟨0,[.lit (.ci .i64 a),.fact p],[oN x],.quiet (hO .max)⟩:=fun X w ac o xs _ hm ha=>by
 obtain ⟨args,ts,ho,rfl⟩:=rT hm
 obtain ⟨u,v,huv⟩:∃u v,args.toList.map ac.eval = [u,v]:=by
  match args.toList.map ac.eval,ha with
  | [u,v],_=>exact ⟨u,v,rfl⟩
 rw [huv] at ha
 obtain ⟨y,z,rfl,h1,h2⟩:=rU huv
 have e1:u = .int .i64 a:=ha.1
 have e2:=hp _ _ (ha.2.1 w (Off.refl _ _))
 refine ⟨.int .i64 c,w,?_,bh w none,cL (fa c) hx fun _ _=>rfl⟩
 unfold execOp
 simp [ho,resolve,invoke,builtin,h1,h2,e1,e2,run_max_int2,hc]
end
def uX (F:PH) (z:Nat->Int) (n0 c0:Nat) (s0:Option Addr):List WP:=[df s0 c0 2 F n0,Nz n0,Ni ((tl z n0:Nat):Int),df s0 c0 2 F (tl z n0)]
def NI (F:PH) (z:Nat->Int) (n0:Nat) (j:Nat):List WP:=[Nz (n0-j),Nz (n0-(j+1)),Ptr 2 (F (n0-(j+1))),F (n0-(j+1)),Nw 0 0,Ni (dJ (z (n0-(j+1))) (0:Int)),Nz (n0-(j+1))]
def AQ:bf:=⟨[0,2,4,5],[(.slot 3,.i)],[(.one 0,4)],[.frm 1],4,[(4,2)]⟩
def AR:List Step:=[.derive (.agg [.cb false,.nl]) (.agg [.lit (.cb false),.lit (.nl)]) [] 8,bQ [4,.lit (.ci .i64 0)] oT (ak .gtr),bQ [4,.lit (.ci .i64 1)] [oN 5] (ak .sub),bQ [0,5] [oP 6] (aH 28),bQ [6] [oI 7] (aI 57),.base ⟨53,[7,8],[oN 9],false⟩,bQ [9,.lit (.ci .i64 0)] oT (ak .eql),bQ [4,.lit (.ci .i64 1)] [oN 10] (ak .sub)]
def NJ:List Step:=[bQ [4,.lit (.ci .i64 0)] oF (ak .gtr)]
def NK:List Step:=[bQ [0] [oN 1] (aC 28),.loop AQ [(AR,[.frm 10])] NJ,bQ [0,2] [oS 3] (ec 28)]
def NM:List Out:=[oS 0]
theorem NN  (hF:∀i w v,F i w v->aE w v (z i) k) (hK:∀i w w1 v,Kp w w1->F i w v->F i w1 v) (hn:n0<=1000000) (hk:k<=500000) (ht:tl z n0=0):aj (ph (uX F z n0 c0 s0)) prog ⟨42,[0],[oS 3],false⟩:=by
 have hle:=aL z n0
 exact aV NM [oS 3] NK func42 (by kernel_rfl) (lB (gJ (sz:=2) (n:=n0) (F:=F) underlying28 (fun _ _ h=>Rw.arr h.2) rfl) (bk (counted (n0-tl z n0) (fun j=>ph (uX F z n0 c0 s0 ++ NI F z n0 j)) (fun _=>0) (fun j p hp=>bm (show p<(uX F z n0 c0 s0).length from hp)) ⟨ad,trivial⟩ (fun j hj=>by
   have h0:z (n0-(j+1))=0:=gK z n0 _ (by omega) (by omega)
   exact ⟨(AR,[.frm 10]),rfl,⟨ad,trivial⟩,(ej (nZ rfl) (lB (eX ad) (lB (bO ad rfl) (lB (lF (i:=(n0-(j+1))) (sz:=2) (n:=n0) (F:=F) underlying28 (by kernel_rfl) (fun _ _ h=>Rw.arr h.2) ad (by omega) rfl) (lB (cm (sz:=2) (F:=F (n0-(j+1))) ad (fun w w1 v g h=>hK (n0-(j+1)) w w1 v g h) (fun w v h=>aE.is (hF (n0-(j+1)) w v h)) rfl) (lB (oc (hF (n0-(j+1))) nI rfl rfl) (lB (dp (op:=.eql) ad (cY (decide_eq_true (by rw [h0];rfl)) (by simp))) (lB (bO ad rfl) au))))))))⟩)
   (by
   have hle:=aL z n0
   exact (lB (kC ad) au))
   (fun q hq w v h=>by
    simp only [AQ,List.mem_cons,List.not_mem_nil,or_false] at hq
    rcases hq with rfl
    ·exact (fun h=>h.trans (congrArg (Value.int .i64) (by have:=aL z n0;omega))) h)) (lB (pQ (m:=(tl z n0)) (n:=n0) (F:=F) underlying28 (by kernel_rfl) ad ad (by first | omega | exact aL _ _) rfl) au)))
  (aK [.fact 0 (.one (.s))] ⟨fun _ _ h=>Rw.is (sz:=2) (F:=F) (n:=n0) h.2,trivial⟩) bg
def uY (F:PH) (z:Nat->Int) (n0 c0:Nat) (s0:Option Addr):List WP:=[df s0 c0 2 F n0,Nz n0,Ni ((tl z n0:Nat):Int),df s0 c0 2 F (tl z n0)]
def NO (F:PH) (z:Nat->Int) (n0:Nat) (j:Nat):List WP:=[Nz (n0-j),Nz (n0-(j+1)),Ptr 2 (F (n0-(j+1))),F (n0-(j+1)),Nw 0 0,Ni (dJ (z (n0-(j+1))) (0:Int)),Nz (n0-(j+1)),Nz (tl z n0-1),Ptr 2 (F (tl z n0-1)),F (tl z n0-1),Nw 0 0,Ni (dJ (z (tl z n0-1)) (0:Int))]
def AS:bf:=⟨[0,2,4,5],[(.slot 3,.i)],[(.one 0,4)],[.frm 1],4,[(4,2)]⟩
def AT:List Step:=[.derive (.agg [.cb false,.nl]) (.agg [.lit (.cb false),.lit (.nl)]) [] 8,bQ [4,.lit (.ci .i64 0)] oT (ak .gtr),bQ [4,.lit (.ci .i64 1)] [oN 5] (ak .sub),bQ [0,5] [oP 6] (aH 28),bQ [6] [oI 7] (aI 57),.base ⟨53,[7,8],[oN 9],false⟩,bQ [9,.lit (.ci .i64 0)] oT (ak .eql),bQ [4,.lit (.ci .i64 1)] [oN 10] (ak .sub)]
def NP:List Step:=[.derive (.agg [.cb false,.nl]) (.agg [.lit (.cb false),.lit (.nl)]) [] 14,bQ [4,.lit (.ci .i64 0)] oT (ak .gtr),bQ [4,.lit (.ci .i64 1)] [oN 11] (ak .sub),bQ [0,11] [oP 12] (aH 28),bQ [12] [oI 13] (aI 57),.base ⟨53,[13,14],[oN 15],false⟩,bQ [15,.lit (.ci .i64 0)] oF (ak .eql)]
def NQ:List Step:=[bQ [0] [oN 1] (aC 28),.loop AS [(AT,[.frm 10])] NP,bQ [0,2] [oS 3] (ec 28)]
def NR:List Out:=[oS 0]
theorem NS  (hF:∀i w v,F i w v->aE w v (z i) k) (hK:∀i w w1 v,Kp w w1->F i w v->F i w1 v) (hn:n0<=1000000) (hk:k<=500000) (ht:0<tl z n0):aj (ph (uY F z n0 c0 s0)) prog ⟨42,[0],[oS 3],false⟩:=by
 have hle:=aL z n0
 exact aV NR [oS 3] NQ func42 (by kernel_rfl) (lB (gJ (sz:=2) (n:=n0) (F:=F) underlying28 (fun _ _ h=>Rw.arr h.2) rfl) (bk (counted (n0-tl z n0) (fun j=>ph (uY F z n0 c0 s0 ++ NO F z n0 j)) (fun _=>0) (fun j p hp=>bm (show p<(uY F z n0 c0 s0).length from hp)) ⟨ad,trivial⟩ (fun j hj=>by
   have h0:z (n0-(j+1))=0:=gK z n0 _ (by omega) (by omega)
   exact ⟨(AT,[.frm 10]),rfl,⟨ad,trivial⟩,(ej (nZ rfl) (lB (eX ad) (lB (bO ad rfl) (lB (lF (i:=(n0-(j+1))) (sz:=2) (n:=n0) (F:=F) underlying28 (by kernel_rfl) (fun _ _ h=>Rw.arr h.2) ad (by omega) rfl) (lB (cm (sz:=2) (F:=F (n0-(j+1))) ad (fun w w1 v g h=>hK (n0-(j+1)) w w1 v g h) (fun w v h=>aE.is (hF (n0-(j+1)) w v h)) rfl) (lB (oc (hF (n0-(j+1))) nI rfl rfl) (lB (dp (op:=.eql) ad (cY (decide_eq_true (by rw [h0];rfl)) (by simp))) (lB (bO ad rfl) au))))))))⟩)
   (by
   have hle:=aL z n0;have hl:=fb z n0 ht
   exact (ej (nZ rfl) (lB (eX ad) (lB (bO ad rfl) (lB (lF (i:=(tl z n0-1)) (sz:=2) (n:=n0) (F:=F) underlying28 (by kernel_rfl) (fun _ _ h=>Rw.arr h.2) ad (by omega) rfl) (lB (cm (sz:=2) (F:=F (tl z n0-1)) ad (fun w w1 v g h=>hK (tl z n0-1) w w1 v g h) (fun w v h=>aE.is (hF (tl z n0-1) w v h)) rfl) (lB (oc (hF (tl z n0-1)) nI rfl rfl) (lB (dp (op:=.eql) ad (cY (decide_eq_false (fun h=>hl (AU h))) (by simp))) au))))))))
   (fun q hq w v h=>by
    simp only [AS,List.mem_cons,List.not_mem_nil,or_false] at hq
    rcases hq with rfl
    ·exact (fun h=>h.trans (congrArg (Value.int .i64) (by have:=aL z n0;omega))) h)) (lB (pQ (m:=(tl z n0)) (n:=n0) (F:=F) underlying28 (by kernel_rfl) ad ad (by first | omega | exact aL _ _) rfl) au)))
  (aK [.fact 0 (.one (.s))] ⟨fun _ _ h=>Rw.is (sz:=2) (F:=F) (n:=n0) h.2,trivial⟩) bg
section
variable {Φ:PH}{p x:Nat}
theorem NT  (hp:∀w v,Φ p w v->df s0 c0 2 F n w v) (hF:∀i w v,F i w v->aE w v (z i) k) (hK:∀i w w1 v,Kp w w1->F i w v->F i w1 v) (hx:Φ x=df s0 c0 2 F (tl z n)) (hn:n<=1000000) (hk:k<=500000):aj Φ prog ⟨42,[.fact p],[oS x],false⟩:=by
 rcases Nat.eq_zero_or_pos (tl z n) with h | h
 ·exact aW (NN hF hK hn hk h) ⟨hp,trivial⟩ ⟨⟨rfl,⟨rfl,rfl,fun _ _ h=>hx▸h⟩,trivial⟩,trivial⟩
 ·exact aW (NS hF hK hn hk h) ⟨hp,trivial⟩ ⟨⟨rfl,⟨rfl,rfl,fun _ _ h=>hx▸h⟩,trivial⟩,trivial⟩
theorem NU {j:Nat} (hp:∀w v,Φ p w v->ah 2 57 F n w v) (hF:∀i w v,F i w v->aE w v (z i) k) (hK:∀i w w1 v,Kp w w1->F i w v->F i w1 v) (hx:Φ x=ah 2 57 F (tl z n)) (hn:n<=1000000:=by omega) (hk:k<=500000:=by omega):aj Φ prog ⟨42,[.fact p],[oS x],.mC [] j 0⟩:=fun X L w vs hX hL hLX ha hb=>by
 match vs,ha with
 | [v],ha=>
  have h1:=hp _ _ (ha.1 w (Off.refl _ _))
  obtain ⟨s0,c0,rfl,hc,he⟩:=h1.rw
  refine (NT (Φ:=ph [df s0 c0 2 F n,df s0 c0 2 F (tl z n)]) (p:=0) (x:=1) (s0:=s0) (c0:=c0) ad hF hK rfl hn hk X w [.slice s0 n c0] hX ⟨fun w1 hw=>⟨rfl,(hp _ _ (ha.1 w1 hw)).rw⟩,trivial⟩).mono fun e w' ⟨hg,us,he,ho⟩=>?_
  match us,ho with
  | [u],ho=>
   have hu:=ho.1.2 _ (List.mem_singleton.2 rfl) w' (Off.refl _ _)
   obtain ⟨rfl,-⟩:u = .slice s0 (tl z n) c0∧_:=hu
   refine ⟨hg,_,he,cL ⟨⟨_,_,_,rfl⟩,fun _ h=>by cases h⟩ hx fun w1 hw=>(hp _ _ (ha.1 w1 ((Off.grown hg).trans hw fun _ _ h=>h))).take (aL z n),fun g hg'=>?_⟩
   have hg2:blk (.slice s0 n c0)=some g:=by
    revert hg'
    cases s0 <;> exact fun h=>h
   have h3:=hb _ g rfl hg2
   exact ⟨Nat.lt_of_lt_of_le (hL g h3) hg.size,.inl h3⟩
end
def uZ (z:Nat->Int) (n k:Nat):List WP:=[Rw 2 (If z k) n,Nz n,ah 2 57 (Nf (upto 0 z) k) n,Nz n,ah 2 57 (Nf (upto n z) k) n,ah 2 57 (Nf (upto n z) k) (tl (upto n z) n)]
def NV (z:Nat->Int) (n k:Nat) (j:Nat):List WP:=[Nz j,ah 2 57 (Nf (upto j z) k) n,fun _ _=>True,Ptr 2 (Iw (z j) k),Iw (z j) k,Nw (z j) k,At 2,Ptr 2 (Nw ((upto j z) j) k),fun w v=>ah 2 57 (fun ι w v=>ai w v ((upto (j+1) z) ι) k) n w v,Nz (j+1)]
def AV:bf:=⟨[0,1,4,8,9,10,11,12],[(.slot 13,.i),(.slot 5,.s)],[(.one 0,6),(.one 1,.bB [1] 7),(.one 1,.lo 1)],[.closed (.one (.ci .i64 0)),.frm 2,.frm 0],6,[(7,4)]⟩
def AW:List Step:=[bQ [6,3] oT (ak .lss),bQ [0,6] [oP 9] (aH 28),bQ [9] [oI 10] (aI 57),.base ⟨91,[10],[oI 11],false⟩,.base ⟨0,[7,6],[oP 13],.joint [1] 12 (aH 28)⟩,.base ⟨0,[7,6,.any,11],[oS 14],.put [] 1 0 12 (dR 57 (.tmp 18) (.tmp 19))⟩,bQ [6,.lit (.ci .i64 1)] [oN 15] (ak .add)]
def NW:List Step:=[bQ [6,3] oF (ak .lss)]
def NX:List Step:=[bQ [0] [oN 1] (aC 28),.base ⟨0,[1,1],[oS 2],.loose [] 1 0 (fE 28)⟩,bQ [0] [oN 3] (aC 28),.loop AV [(AW,[.frm 15,.frm 14,.frm 0])] NW,.base ⟨42,[4],[oS 5],.mC [] 1 0⟩]
def NY:List Out:=[oS 0,⟨.one (.lit (.fn 91)),[]⟩]
theorem NZ  (hn:n<=1000000) (hk:k<=500000):gw (ph (uZ z n k)) prog ⟨115,[0,.lit (.fn 91)],[oS 5],false⟩:=nT NY [oS 5] NX func115 (by kernel_rfl) (lB (aJ (F:=(If z k)) underlying28 ad rfl) (lB (jc (n:=n) (F:=(Nf (upto 0 z) k)) ad (fun i w=>ai.zero w k) rfl) (lB (aJ (F:=(If z k)) underlying28 ad rfl) (bk (counted n (fun j=>ph (uZ z n k ++ NV z n k j)) (fun _=>0) (fun j p hp=>bm (show p<(uZ z n k).length from hp)) ⟨fun _=>rfl,ad,aP,trivial⟩ (fun j hj=>by
   skip
   exact ⟨(AW,[.frm 15,.frm 14,.frm 0]),rfl,⟨ad,ad,aP,trivial⟩,(lB (bT ad ad) (lB (bz (i:=j) (F:=(If z k)) underlying28 ad ad rfl) (lB (cm (sz:=2) (F:=Iw (z j) k) ad (fun _ _ _ g h=>aE.kp h g) (fun _ _ h=>aE.is h) rfl) (lB (vd iI rfl rfl) (lB (bW (i:=j) (sz:=2) (n:=n) (F:=(Nf (upto j z) k)) underlying28 (fun _ _ h=>ah.arr h) ad rfl rfl) (lB (fD (i:=j) (n:=n) (F:=(fun ι w v=>ai w v ((upto j z) ι) k)) (F':=(fun ι w v=>ai w v ((upto (j+1) z) ι) k)) (G:=Nw (z j) k) (.tmp 18) (.tmp 19) ad ad ad rfl (fun _ _ h=>ai.cells h) (fun _ _ _ _ g h=>ai.kp h g) (fun _ _ _ g h=>ai.kp h g) (fun i w v hi h=>by rw [od hi];exact h) (fun w v h=>h.eq (oe j z).symm) rfl) (lB (ce ad rfl) au)))))))⟩) (lB (tlF ad ad) au)
   (fun q hq w v h=>by
    simp only [AV,List.mem_cons,List.not_mem_nil,or_false] at hq
    rcases hq with rfl
    ·exact (fun h=>h) h)) (lB (NU (z:=(upto n z)) (n:=n) (k:=k) (F:=(Nf (upto n z) k)) ad (fun _ _ _ h=>ai.i h) (fun _ _ _ _ g h=>ai.kp h g) rfl) au)))))
  (aK [.fact 0 (.one (.s)),.lit (.fn 91)] ⟨Rw.Is 2 (If z k) n,(fun _ h=>by cases h),trivial⟩) bg
section
variable {Φ:PH}{p q x l:Nat}{J:List Nat}{j:Nat}{L:List Int}
theorem Oe {Z:Nat->Int}{v:Value} (h:ah 2 57 (Nf (upto n Z) k) (tl (upto n Z) n) w v):ah 2 57 (Nf (ae (aG (mk n Z))) k) (aG (mk n Z)).length w v:=by
 rw [iE,<- show tl (upto n Z) n=tl Z n from pR fun i hi=>gx hi]
 exact h.to fun i w v hi h=>h.eq (by
  have:=aL (upto n Z) n
  rw [mz,eG,if_pos (by omega),gx (by omega)])
theorem Of (hp:∀w v,Φ p w v->Rw 2 (If z k) n w v) (hx:Φ x=ah 2 57 (Nf (ae L) k) L.length) (hL:aG (mk n z)=L) (hn:n<=1000000:=by omega) (hk:k<=500000:=by omega):aj Φ prog ⟨115,[.fact p,.lit (.fn 91)],[oS x],.cM J j⟩:=
 rP (NZ hn hk) ⟨hp,rfl,trivial⟩ ⟨⟨rfl,⟨rfl,rfl,fun _ _ h=>hx▸hL▸Oe h⟩,trivial⟩,trivial⟩
end
def Og (z:Nat->Int) (n k:Nat):List WP:=[Rw 2 (If z k) n,ah 2 57 (Nf (ae (aG (mk n z))) k) ((aG (mk n z)).length)]
def Oh:List Step:=[.base ⟨115,[0,.lit (.fn 91)],[oS 1],.cM [] 1⟩]
def Oi:List Out:=[oS 0]
theorem Oj  (hn:n<=1000000) (hk:k<=500000):gw (ph (Og z n k)) prog ⟨93,[0],[oS 1],false⟩:=nT Oi [oS 1] Oh func93 (by kernel_rfl) (lB (Of (Rw.To 2 (If z k) n (fun _ _ _ _ h=>h)) rfl rfl) au)
  (aK [.fact 0 (.one (.s))] ⟨Rw.Is 2 (If z k) n,trivial⟩) bg
section
variable {Φ:PH}{p q x l:Nat}{J:List Nat}{j:Nat}{L:List Int}
theorem pM (hp:∀w v,Φ p w v->Rw 2 (If z k) n w v) (hx:Φ x=ah 2 57 (Nf (ae L) k) L.length) (hL:aG (mk n z)=L) (hn:n<=1000000:=by omega) (hk:k<=500000:=by omega):aj Φ prog ⟨93,[.fact p],[oS x],.cM J j⟩:=
 rP (Oj hn hk) ⟨hp,trivial⟩ ⟨⟨rfl,⟨rfl,rfl,fun _ _ h=>hx▸hL▸h⟩,trivial⟩,trivial⟩
end
def Ok (z:Nat->Int) (n l k:Nat):List WP:=[Rw 2 (If z k) l,Nz n,Nz l,Nz (min n l),Rw 2 (If z k) (min n l),ah 2 57 (Nf (ae (aG (mk (min n l) z))) k) ((aG (mk (min n l) z)).length)]
def Ol:List Step:=[bQ [0] [oN 2] (aC 28),bQ [1,2] [oN 3] (hO .min),bQ [0,3] [oS 4] (ec 28),.base ⟨93,[4],[oS 5],.cM [] 1⟩]
def Om:List Out:=[oS 0,oN 1]
theorem Nd {l:Nat} (hn:l<=1000000) (hk:k<=500000):gw (ph (Ok z n l k)) prog ⟨135,[0,1],[oS 5],false⟩:=nT Om [oS 5] Ol func135 (by kernel_rfl) (lB (aJ (F:=(If z k)) underlying28 ad rfl) (lB (AP ad ad (by split <;> omega) rfl) (lB (lE (m:=(min n l)) (n:=l) (F:=(If z k)) underlying28 ad ad (by first | omega | exact aL _ _) rfl) (lB (pM (Rw.To 2 (If z k) (min n l) (fun _ _ _ _ h=>h)) rfl rfl) au))))
  (aK [.fact 0 (.one (.s)),.fact 1 (.one (.i))] ⟨Rw.Is 2 (If z k) l,fun _ _ h=>h▸fa _,trivial⟩) (fun _ _ _ h=>h)
section
variable {Φ:PH}{p q x l:Nat}{J:List Nat}{j:Nat}{L:List Int}
end
end Go.Proofs.YtomamliepbhegaaGreat.Sym
