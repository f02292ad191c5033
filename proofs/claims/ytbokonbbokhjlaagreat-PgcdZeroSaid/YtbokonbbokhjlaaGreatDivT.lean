/- poly.trim told with the row's block; poly.Norm and pdiv.below, whose results lie in new memory. -/
import Derived.Test.YtbokonbbokhjlaaGreatPolH
import Derived.Test.YtbokonbbokhjlaaGreatPolW
set_option maxRecDepth 100000
namespace Go.Proofs.YtbokonbbokhjlaaGreat.Sym
open Go.RowKit
def cO (s:Option Addr) (c sz:Nat) (F:PH) (n:Nat) (w:World) (v:Value):Prop:=v = .slice s n c∧Rw sz F n w v
theorem H9 {sz m:Nat}:∀{rows:List (List Value)},(∀r,r ∈ rows->r.length=sz)->m<=rows.length->rows.flatten.take (m*sz)=(rows.take m).flatten:=fun {rows} h hm=>by
 have e1:rows.flatten=(rows.take m).flatten ++ (rows.drop m).flatten:=by
  rw [<- List.flatten_append,List.take_append_drop]
 have e2:(rows.take m).flatten.length=m*sz:=by
  rw [mi (sz:=sz) (fun r hr=>h r (List.mem_of_mem_take hr)),List.length_take,Nat.min_eq_left hm]
 rw [e1,<- e2,List.take_left]
theorem ah.take {sz n m c:Nat}{e:TypeId}{F:PH}{w:World}{s:Option Addr} (h:ah sz e F n w (.slice s n c)) (hm:m<=n):ah sz e F m w (.slice s m c):=by
 obtain ⟨rows,hl,hs,ho,hF⟩:=h
 refine ⟨rows.take m,by rw [List.length_take];omega,fun r hr=>hs r (List.mem_of_mem_take hr),⟨⟨by rw [mi (sz:=sz) (fun r hr=>hs r (List.mem_of_mem_take hr)),List.length_take,Nat.min_eq_left (by omega)],?_⟩,fun g cur e' p hg hh x hx=>ho.2 g cur e' p ?_ hh x hx⟩,fun i r hr=>hF i r ?_⟩
 ·rcases ho.1.2 with ⟨h1,h2⟩ | ⟨g,cap,cur,h1,hb,hh,h3,h4,h5,h6⟩
  ·simp only [Value.slice.injEq] at h1
   obtain ⟨rfl,rfl,rfl⟩:=h1
   exact .inl ⟨by rw [show m=0 by omega],by omega⟩
  ·simp only [Value.slice.injEq] at h1
   obtain ⟨rfl,-,rfl⟩:=h1
   refine .inr ⟨g,c,cur,rfl,hb,hh,by omega,h4,h5,?_⟩
   rw [<- H9 hs (by omega),<- h6,List.take_take,Nat.min_eq_left (Nat.mul_le_mul_right _ hm)]
 ·simp only [Value.ownBlock] at hg ⊢
  cases s <;> exact hg
 ·rw [List.getElem?_take] at hr
  split at hr
  ·exact hr
  ·cases hr
section
variable {P:Program}{Φ:PH}{p q x m n c0:Nat}{s0:Option Addr}{a b:Int}
theorem nC {T e:TypeId}{sz:Nat}{F:PH} (hT:P.underlying T=some (.slice e)) (hz:dJ P e=some sz) (hp:∀w v,Φ p w v->cO s0 c0 sz F n w v) (hq:∀w v,Φ q w v->v = .int .i64 (m:Int)) (hm':m<=n) (hx:Φ x=cO s0 c0 sz F m):ai Φ P ⟨0,[.fact p,.fact q],[oS x],.quiet (dI T)⟩:=fun X w ac o xs _ hm ha=>by
 unfold dI at hm
 split at hm
 case h_2=>cases hm
 rename_i t y z ho
 split at hm
 case isFalse=>cases hm
 rename_i ht
 subst ht
 simp only [Option.some.injEq] at hm
 subst hm
 obtain ⟨hv,s,c,hv',hc,he⟩:=hp _ _ (ha.1 w (Off.refl _ _))
 rw [hv] at hv'
 simp only [Value.slice.injEq,true_and] at hv'
 obtain ⟨rfl,rfl⟩:=hv'
 have hi2:=hq _ _ (ha.2.1 w (Off.refl _ _))
 refine ⟨.slice s0 m c0,w,?_,ba w none,cJ ⟨⟨_,_,_,rfl⟩,fun _ h=>by cases h⟩ hx fun w1 hw=>⟨rfl,?_⟩⟩
 ·unfold execOp
  have h0:(0:Int)<=(m:Int):=Int.natCast_nonneg m
  have h1:(m:Int)<=(c0:Int):=by omega
  have ha0:(s0.map fun y=>y.add 0)=s0:=by cases s0 <;> simp [Addr.add_zero']
  simp only [ho,Option.map_none,Option.map_some,hv,hi2]
  simp [Instr.sliceAt,Instr.slice,run_underlying hT,Instr.sliceBounds,run_sliceBound (P:=P) w .i64 (m:Int) c0 .sliceAcap h0 h1,run_sizeOf hz,ha0]
 ·obtain ⟨hv1,s',c',hv',hc',he'⟩:=hp _ _ (ha.1 w1 hw)
  rw [hv1] at hv'
  simp only [Value.slice.injEq,true_and] at hv'
  obtain ⟨rfl,rfl⟩:=hv'
  exact ⟨s0,c0,rfl,by omega,fun i hi=>he' i (by omega)⟩
theorem xP {c:Int} (hp:∀w v,Φ p w v->v = .int .i64 a) (hq:∀w v,Φ q w v->v = .int .i64 b) (hc:(if b<a then b else a)=c) (hx:Φ x=Ni c):ai Φ P ⟨0,[.fact p,.fact q],[oN x],.quiet (gm .min)⟩:=fun X w ac o xs _ hm ha=>by
 obtain ⟨args,ts,ho,rfl⟩:=pL hm
 obtain ⟨u,v,huv⟩:∃u v,args.toList.map ac.eval = [u,v]:=by
  match args.toList.map ac.eval,ha with
  | [u,v],_=>exact ⟨u,v,rfl⟩
 rw [huv] at ha
 obtain ⟨y,z,rfl,h1,h2⟩:=pM huv
 have e1:=hp _ _ (ha.1 w (Off.refl _ _))
 have e2:=hq _ _ (ha.2.1 w (Off.refl _ _))
 refine ⟨.int .i64 c,w,?_,ba w none,cJ (eQ c) hx fun _ _=>rfl⟩
 unfold execOp
 simp [ho,resolve,invoke,builtin,h1,h2,e1,e2,run_min_int2,hc]
theorem mn {c:Int} (hp:∀w v,Φ p w v->v = .int .i64 a) (hq:∀w v,Φ q w v->v = .int .i64 b) (hc:a-b=c) (hx:Φ x=Ni c) (h1 : -9223372036854775808<=c) (h2:c<=9223372036854775807):ai Φ P ⟨0,[.fact p,.fact q],[oN x],.quiet (ak .sub)⟩:=fun X w ac o xs _ hm ha=>by
 obtain ⟨t,y,z,yt,ho,rfl⟩:=mo hm
 refine ⟨.int .i64 c,w,?_,ba w none,cJ (eQ c) hx fun _ _=>rfl⟩
 refine kX ho (hp _ _ (ha.1 w (Off.refl _ _))) (hq _ _ (ha.2.1 w (Off.refl _ _))) ?_
 subst hc
 simp [binOp,Op.intArith,IntWalk.i64_in _ ⟨h1,h2⟩]
theorem sk {c:Int} (hp:∀w v,Φ p w v->v = .int .i64 b) (hc:(if b > a then b else a)=c) (hx:Φ x=Ni c):ai Φ P ⟨0,[.lit (.ci .i64 a),.fact p],[oN x],.quiet (gm .max)⟩:=fun X w ac o xs _ hm ha=>by
 obtain ⟨args,ts,ho,rfl⟩:=pL hm
 obtain ⟨u,v,huv⟩:∃u v,args.toList.map ac.eval = [u,v]:=by
  match args.toList.map ac.eval,ha with
  | [u,v],_=>exact ⟨u,v,rfl⟩
 rw [huv] at ha
 obtain ⟨y,z,rfl,h1,h2⟩:=pM huv
 have e1:u = .int .i64 a:=ha.1
 have e2:=hp _ _ (ha.2.1 w (Off.refl _ _))
 refine ⟨.int .i64 c,w,?_,ba w none,cJ (eQ c) hx fun _ _=>rfl⟩
 unfold execOp
 simp [ho,resolve,invoke,builtin,h1,h2,e1,e2,run_max_int2,hc]
end
def sv (F:PH) (z:Nat->Int) (n0 c0:Nat) (s0:Option Addr):List WP:=[cO s0 c0 2 F n0,Nz n0,Ni ((tl z n0:Nat):Int),cO s0 c0 2 F (tl z n0)]
def Ia (F:PH) (z:Nat->Int) (n0:Nat) (j:Nat):List WP:=[Nz (n0-j),Nz (n0-(j+1)),Ptr 2 (F (n0-(j+1))),F (n0-(j+1)),Nw 0 0,Ni (dj (z (n0-(j+1))) (0:Int)),Nz (n0-(j+1))]
def xQ:bg:=⟨[0,2,4,5],[(.slot 3,.i)],[(.one 0,4)],[.frm 1],4,[(4,2)]⟩
def xR:List Step:=[.derive (.agg [.cb false,.nl]) (.agg [.lit (.cb false),.lit (.nl)]) [] 8,
   bQ [.fact 4,.lit (.ci .i64 0)] oT (ak .gtr),
   bQ [.fact 4,.lit (.ci .i64 1)] [oN 5] (ak .sub),
   bQ [.fact 0,.fact 5] [oP 6] (aG 28),
   bQ [.fact 6] [oI 7] (aM 52),
   .base ⟨66,[.fact 7,.fact 8],[oN 9],false⟩,
   bQ [.fact 9,.lit (.ci .i64 0)] oT (ak .eql),
   bQ [.fact 4,.lit (.ci .i64 1)] [oN 10] (ak .sub)]
def Ib:List Step:=[bQ [.fact 4,.lit (.ci .i64 0)] oF (ak .gtr)]
def Ic:List Step:=[bQ [.fact 0] [oN 1] (aD 28),
   .loop xQ [(xR,[.frm 10])] Ib,
   bQ [.fact 0,.fact 2] [oS 3] (dI 28)]
def Id:List Out:=[oS 0]
theorem Ie {F:PH}{z:Nat->Int}{n0 k c0:Nat}{s0:Option Addr} (hF:∀i w v,F i w v->aC w v (z i) k) (hK:∀i w w1 v,Kp w w1->F i w v->F i w1 v) (hn:n0<=1000000) (hk:k<=500000) (ht:tl z n0=0):ai (ph (sv F z n0 c0 s0)) Tryz.prog ⟨60,[.fact 0],[oS 3],false⟩:=by
 have hle:=aF z n0
 exact aV Id [oS 3] Ic Tryz.func60 (by kernel_rfl)
  (lB (fP (sz:=2) (n:=n0) (F:=F) Tryz.underlying28 (fun _ _ h=>Rw.arr h.2) rfl)
   (bz (counted (n0-tl z n0) (fun j=>ph (sv F z n0 c0 s0 ++ Ia F z n0 j)) (fun _=>0) (fun j p hp=>bB (show p<(sv F z n0 c0 s0).length from hp)) ⟨ad,trivial⟩ (fun j hj=>by
   have h0:z (n0-(j+1))=0:=fQ z n0 _ (by omega) (by omega)
   exact ⟨(xR,[.frm 10]),rfl,⟨ad,trivial⟩,(ec (mq rfl)
   (lB (d3 ad)
   (lB (bK ad (by omega) rfl (by omega) (by omega))
   (lB (jY (i:=(n0-(j+1))) (sz:=2) (n:=n0) (F:=F) Tryz.underlying28 (by kernel_rfl) (fun _ _ h=>Rw.arr h.2) ad (by omega) rfl)
   (lB (dW (sz:=2) (F:=F (n0-(j+1))) (by kernel_rfl) (by kernel_rfl) ad (fun w w1 v g h=>hK (n0-(j+1)) w w1 v g h) (fun w v h=>aC.is (hF (n0-(j+1)) w v h)) rfl)
   (lB (mr (hF (n0-(j+1))) nI rfl (by omega) rfl)
   (lB (bW (op:=.eql) ad (bN (decide_eq_true (by rw [h0];rfl)) (by simp)))
   (lB (bK ad (by omega) rfl (by omega) (by omega))
   aw))))))))⟩)
   (by
   have hle:=aF z n0
   exact (lB (jW ad)
   aw))
   (fun q hq w v h=>by
    simp only [xQ,List.mem_cons,List.not_mem_nil,or_false] at hq
    rcases hq with rfl
    ·exact (fun h=>h.trans (congrArg (Value.int .i64) (by have:=aF z n0;omega))) h)) (lB (nC (m:=(tl z n0)) (n:=n0) (F:=F) Tryz.underlying28 (by kernel_rfl) ad ad (by first | omega | exact aF _ _) rfl)
   aw)))
  (aL [.fact 0 (.one (.s))] ⟨fun _ _ h=>Rw.is (sz:=2) (F:=F) (n:=n0) h.2,trivial⟩) bc
def sy (F:PH) (z:Nat->Int) (n0 c0:Nat) (s0:Option Addr):List WP:=[cO s0 c0 2 F n0,Nz n0,Ni ((tl z n0:Nat):Int),cO s0 c0 2 F (tl z n0)]
def Ig (F:PH) (z:Nat->Int) (n0:Nat) (j:Nat):List WP:=[Nz (n0-j),Nz (n0-(j+1)),Ptr 2 (F (n0-(j+1))),F (n0-(j+1)),Nw 0 0,Ni (dj (z (n0-(j+1))) (0:Int)),Nz (n0-(j+1)),Nz (tl z n0-1),Ptr 2 (F (tl z n0-1)),F (tl z n0-1),Nw 0 0,Ni (dj (z (tl z n0-1)) (0:Int))]
def xT:bg:=⟨[0,2,4,5],[(.slot 3,.i)],[(.one 0,4)],[.frm 1],4,[(4,2)]⟩
def xU:List Step:=[.derive (.agg [.cb false,.nl]) (.agg [.lit (.cb false),.lit (.nl)]) [] 8,
   bQ [.fact 4,.lit (.ci .i64 0)] oT (ak .gtr),
   bQ [.fact 4,.lit (.ci .i64 1)] [oN 5] (ak .sub),
   bQ [.fact 0,.fact 5] [oP 6] (aG 28),
   bQ [.fact 6] [oI 7] (aM 52),
   .base ⟨66,[.fact 7,.fact 8],[oN 9],false⟩,
   bQ [.fact 9,.lit (.ci .i64 0)] oT (ak .eql),
   bQ [.fact 4,.lit (.ci .i64 1)] [oN 10] (ak .sub)]
def Ih:List Step:=[.derive (.agg [.cb false,.nl]) (.agg [.lit (.cb false),.lit (.nl)]) [] 14,
   bQ [.fact 4,.lit (.ci .i64 0)] oT (ak .gtr),
   bQ [.fact 4,.lit (.ci .i64 1)] [oN 11] (ak .sub),
   bQ [.fact 0,.fact 11] [oP 12] (aG 28),
   bQ [.fact 12] [oI 13] (aM 52),
   .base ⟨66,[.fact 13,.fact 14],[oN 15],false⟩,
   bQ [.fact 15,.lit (.ci .i64 0)] oF (ak .eql)]
def Ii:List Step:=[bQ [.fact 0] [oN 1] (aD 28),
   .loop xT [(xU,[.frm 10])] Ih,
   bQ [.fact 0,.fact 2] [oS 3] (dI 28)]
def Ij:List Out:=[oS 0]
theorem Ik {F:PH}{z:Nat->Int}{n0 k c0:Nat}{s0:Option Addr} (hF:∀i w v,F i w v->aC w v (z i) k) (hK:∀i w w1 v,Kp w w1->F i w v->F i w1 v) (hn:n0<=1000000) (hk:k<=500000) (ht:0<tl z n0):ai (ph (sy F z n0 c0 s0)) Tryz.prog ⟨60,[.fact 0],[oS 3],false⟩:=by
 have hle:=aF z n0
 exact aV Ij [oS 3] Ii Tryz.func60 (by kernel_rfl)
  (lB (fP (sz:=2) (n:=n0) (F:=F) Tryz.underlying28 (fun _ _ h=>Rw.arr h.2) rfl)
   (bz (counted (n0-tl z n0) (fun j=>ph (sy F z n0 c0 s0 ++ Ig F z n0 j)) (fun _=>0) (fun j p hp=>bB (show p<(sy F z n0 c0 s0).length from hp)) ⟨ad,trivial⟩ (fun j hj=>by
   have h0:z (n0-(j+1))=0:=fQ z n0 _ (by omega) (by omega)
   exact ⟨(xU,[.frm 10]),rfl,⟨ad,trivial⟩,(ec (mq rfl)
   (lB (d3 ad)
   (lB (bK ad (by omega) rfl (by omega) (by omega))
   (lB (jY (i:=(n0-(j+1))) (sz:=2) (n:=n0) (F:=F) Tryz.underlying28 (by kernel_rfl) (fun _ _ h=>Rw.arr h.2) ad (by omega) rfl)
   (lB (dW (sz:=2) (F:=F (n0-(j+1))) (by kernel_rfl) (by kernel_rfl) ad (fun w w1 v g h=>hK (n0-(j+1)) w w1 v g h) (fun w v h=>aC.is (hF (n0-(j+1)) w v h)) rfl)
   (lB (mr (hF (n0-(j+1))) nI rfl (by omega) rfl)
   (lB (bW (op:=.eql) ad (bN (decide_eq_true (by rw [h0];rfl)) (by simp)))
   (lB (bK ad (by omega) rfl (by omega) (by omega))
   aw))))))))⟩)
   (by
   have hle:=aF z n0;have hl:=gk z n0 ht
   exact (ec (mq rfl)
   (lB (d3 ad)
   (lB (bK ad (by omega) rfl (by omega) (by omega))
   (lB (jY (i:=(tl z n0-1)) (sz:=2) (n:=n0) (F:=F) Tryz.underlying28 (by kernel_rfl) (fun _ _ h=>Rw.arr h.2) ad (by omega) rfl)
   (lB (dW (sz:=2) (F:=F (tl z n0-1)) (by kernel_rfl) (by kernel_rfl) ad (fun w w1 v g h=>hK (tl z n0-1) w w1 v g h) (fun w v h=>aC.is (hF (tl z n0-1) w v h)) rfl)
   (lB (mr (hF (tl z n0-1)) nI rfl (by omega) rfl)
   (lB (bW (op:=.eql) ad (bN (decide_eq_false (fun h=>hl (xV h))) (by simp)))
   aw))))))))
   (fun q hq w v h=>by
    simp only [xT,List.mem_cons,List.not_mem_nil,or_false] at hq
    rcases hq with rfl
    ·exact (fun h=>h.trans (congrArg (Value.int .i64) (by have:=aF z n0;omega))) h)) (lB (nC (m:=(tl z n0)) (n:=n0) (F:=F) Tryz.underlying28 (by kernel_rfl) ad ad (by first | omega | exact aF _ _) rfl)
   aw)))
  (aL [.fact 0 (.one (.s))] ⟨fun _ _ h=>Rw.is (sz:=2) (F:=F) (n:=n0) h.2,trivial⟩) bc
section
variable {Φ:PH}{p x n k:Nat}{z:Nat->Int}{F:PH}
theorem Il {s0:Option Addr}{c0:Nat} (hp:∀w v,Φ p w v->cO s0 c0 2 F n w v) (hF:∀i w v,F i w v->aC w v (z i) k) (hK:∀i w w1 v,Kp w w1->F i w v->F i w1 v) (hx:Φ x=cO s0 c0 2 F (tl z n)) (hn:n<=1000000) (hk:k<=500000):ai Φ Tryz.prog ⟨60,[.fact p],[oS x],false⟩:=by
 rcases Nat.eq_zero_or_pos (tl z n) with h | h
 ·exact aW (Ie hF hK hn hk h) ⟨hp,trivial⟩ ⟨⟨rfl,⟨rfl,rfl,fun _ _ h=>hx▸h⟩,trivial⟩,trivial⟩
 ·exact aW (Ik hF hK hn hk h) ⟨hp,trivial⟩ ⟨⟨rfl,⟨rfl,rfl,fun _ _ h=>hx▸h⟩,trivial⟩,trivial⟩
theorem Im {j:Nat} (hp:∀w v,Φ p w v->ah 2 52 F n w v) (hF:∀i w v,F i w v->aC w v (z i) k) (hK:∀i w w1 v,Kp w w1->F i w v->F i w1 v) (hx:Φ x=ah 2 52 F (tl z n)) (hn:n<=1000000) (hk:k<=500000):ai Φ Tryz.prog ⟨60,[.fact p],[oS x],.kY [] j 0⟩:=fun X L w vs hX hL hLX ha hb=>by
 match vs,ha with
 | [v],ha=>
  have h1:=hp _ _ (ha.1 w (Off.refl _ _))
  obtain ⟨s0,c0,rfl,hc,he⟩:=h1.rw
  refine (Il (Φ:=ph [cO s0 c0 2 F n,cO s0 c0 2 F (tl z n)]) (p:=0) (x:=1) (s0:=s0) (c0:=c0) ad hF hK rfl hn hk X w [.slice s0 n c0] hX ⟨fun w1 hw=>⟨rfl,(hp _ _ (ha.1 w1 hw)).rw⟩,trivial⟩).mono fun e w' ⟨hg,us,he,ho⟩=>?_
  match us,ho with
  | [u],ho=>
   have hu:=ho.1.2 _ (List.mem_singleton.2 rfl) w' (Off.refl _ _)
   obtain ⟨rfl,-⟩:u = .slice s0 (tl z n) c0∧_:=hu
   refine ⟨hg,_,he,cJ ⟨⟨_,_,_,rfl⟩,fun _ h=>by cases h⟩ hx fun w1 hw=>(hp _ _ (ha.1 w1 ((Off.grown hg).trans hw fun _ _ h=>h))).take (aF z n),fun g hg'=>?_⟩
   have hg2:blk (.slice s0 n c0)=some g:=by
    revert hg'
    cases s0 <;> exact fun h=>h
   have h3:=hb _ g rfl hg2
   exact ⟨Nat.lt_of_lt_of_le (hL g h3) hg.size,.inl h3⟩
end
def sB (z:Nat->Int) (n k:Nat):List WP:=[Rw 2 (If z k) n,Nz n,ah 2 52 (Nf (upto 0 z) k) n,Nz n,ah 2 52 (Nf (upto n z) k) n,ah 2 52 (Nf (upto n z) k) (tl (upto n z) n)]
def In (z:Nat->Int) (n k:Nat) (j:Nat):List WP:=[Nz j,ah 2 52 (Nf (upto j z) k) n,fun _ _=>True,Ptr 2 (Iw (z j) k),Iw (z j) k,Nw (z j) k,At 2,Ptr 2 (Nw ((upto j z) j) k),fun w v=>ah 2 52 (fun ι w v=>af w v ((upto (j+1) z) ι) k) n w v,Nz (j+1)]
def xW:bg:=⟨[0,1,4,8,9,10,11,12],[(.slot 13,.i),(.slot 5,.s)],[(.one 0,6),(.one 1,.Ru [1] 7),(.one 1,.lo 1)],[.closed (.one (.ci .i64 0)),.frm 2,.frm 0],6,[(7,4)]⟩
def xX:List Step:=[bQ [.fact 6,.fact 3] oT (ak .lss),
   bQ [.fact 0,.fact 6] [oP 9] (aG 28),
   bQ [.fact 9] [oI 10] (aM 52),
   .base ⟨69,[.fact 10],[oI 11],false⟩,
   .base ⟨0,[.fact 7,.fact 6],[oP 13],.joint [1] 12 (aG 28)⟩,
   .base ⟨0,[.fact 7,.fact 6,.any,.fact 11],[oS 14],.put [] 1 0 12 (dV 52 (.tmp 18) (.tmp 19))⟩,
   bQ [.fact 6,.lit (.ci .i64 1)] [oN 15] (ak .add)]
def Io:List Step:=[bQ [.fact 6,.fact 3] oF (ak .lss)]
def Ip:List Step:=[bQ [.fact 0] [oN 1] (aD 28),
   .base ⟨0,[.fact 1,.fact 1],[oS 2],.loose [] 1 0 (fp 28)⟩,
   bQ [.fact 0] [oN 3] (aD 28),
   .loop xW [(xX,[.frm 15,.frm 14,.frm 0])] Io,
   .base ⟨60,[.fact 4],[oS 5],.kY [] 1 0⟩]
def Iq:List Out:=[oS 0,⟨.one (.lit (.fn 69)),[]⟩]
theorem Ir {z:Nat->Int}{n k:Nat} (hn:n<=1000000) (hk:k<=500000):fO (ph (sB z n k)) Tryz.prog ⟨67,[.fact 0,.lit (.fn 69)],[oS 5],false⟩:=by
 skip
 exact nr Iq [oS 5] Ip Tryz.func67 (by kernel_rfl)
  (lB (aP (F:=(If z k)) Tryz.underlying28 ad rfl)
   (lB (gZ (n:=n) (F:=(Nf (upto 0 z) k)) ad (by omega) (fun i w=>af.zero w k) rfl)
   (lB (aP (F:=(If z k)) Tryz.underlying28 ad rfl)
   (bz (counted n (fun j=>ph (sB z n k ++ In z n k j)) (fun _=>0) (fun j p hp=>bB (show p<(sB z n k).length from hp)) ⟨fun _=>rfl,ad,aS,trivial⟩ (fun j hj=>by
   skip
   exact ⟨(xX,[.frm 15,.frm 14,.frm 0]),rfl,⟨ad,ad,aS,trivial⟩,(lB (cU ad ad)
   (lB (bZ (i:=j) (F:=(If z k)) Tryz.underlying28 (by kernel_rfl) ad ad (by omega) rfl)
   (lB (dW (sz:=2) (F:=Iw (z j) k) (by kernel_rfl) (by kernel_rfl) ad (fun _ _ _ g h=>aC.kp h g) (fun _ _ h=>aC.is h) rfl)
   (lB (sC iI rfl (by omega) rfl)
   (lB (bI (i:=j) (sz:=2) (n:=n) (F:=(Nf (upto j z) k)) Tryz.underlying28 (by kernel_rfl) (fun _ _ h=>ah.arr h) ad (by omega) rfl rfl)
   (lB (fo (i:=j) (n:=n) (F:=(fun ι w v=>af w v ((upto j z) ι) k)) (F':=(fun ι w v=>af w v ((upto (j+1) z) ι) k)) (G:=Nw (z j) k) (.tmp 18) (.tmp 19) (by kernel_rfl) ad ad (by omega) ad rfl (fun _ _ h=>af.cells h) (fun _ _ _ _ g h=>af.kp h g) (fun _ _ _ g h=>af.kp h g) (fun i w v hi h=>by rw [ms hi];exact h) (fun w v h=>h.eq (mt j z).symm) rfl)
   (lB (cN ad (by omega) rfl (by omega) (by omega))
   aw)))))))⟩)
   (lB (tlF ad ad)
   aw)
   (fun q hq w v h=>by
    simp only [xW,List.mem_cons,List.not_mem_nil,or_false] at hq
    rcases hq with rfl
    ·exact (fun h=>h) h)) (lB (Im (z:=(upto n z)) (n:=n) (k:=k) (F:=(Nf (upto n z) k)) ad (fun _ _ _ h=>af.i h) (fun _ _ _ _ g h=>af.kp h g) rfl (by omega) (by omega))
   aw)))))
  (aL [.fact 0 (.one (.s)),.lit (.fn 69)] ⟨Rw.Is 2 (If z k) n,(fun _ h=>by cases h),trivial⟩) bc
section
variable {Φ:PH}{p q x n l k:Nat}{J:List Nat}{j:Nat}{z:Nat->Int}{L:List Int}
theorem Iu {Z:Nat->Int}{w:World}{v:Value} (h:ah 2 52 (Nf (upto n Z) k) (tl (upto n Z) n) w v):ah 2 52 (Nf (ae (be (mk n Z))) k) (be (mk n Z)).length w v:=by
 rw [gl,<- show tl (upto n Z) n=tl Z n from nD fun i hi=>fD hi]
 exact h.to fun i w v hi h=>h.eq (by
  have:=aF (upto n Z) n
  rw [nw,fl,if_pos (by omega),fD (by omega)])
theorem Iv (hp:∀w v,Φ p w v->Rw 2 (If z k) n w v) (hx:Φ x=ah 2 52 (Nf (ae L) k) L.length) (hn:n<=1000000) (hk:k<=500000) (hL:be (mk n z)=L):ai Φ Tryz.prog ⟨67,[.fact p,.lit (.fn 69)],[oS x],.cu J j⟩:=
 pG (Ir hn hk) ⟨hp,rfl,trivial⟩ ⟨⟨rfl,⟨rfl,rfl,fun _ _ h=>hx▸hL▸Iu h⟩,trivial⟩,trivial⟩
end
def Ix (z:Nat->Int) (n k:Nat):List WP:=[Rw 2 (If z k) n,ah 2 52 (Nf (ae (be (mk n z))) k) ((be (mk n z)).length)]
def Iy:List Step:=[.base ⟨67,[.fact 0,.lit (.fn 69)],[oS 1],.cu [] 1⟩]
def Iz:List Out:=[oS 0]
theorem IA {z:Nat->Int}{n k:Nat} (hn:n<=1000000) (hk:k<=500000):fO (ph (Ix z n k)) Tryz.prog ⟨112,[.fact 0],[oS 1],false⟩:=by
 skip
 exact nr Iz [oS 1] Iy Tryz.func112 (by kernel_rfl)
  (lB (Iv (Rw.To 2 (If z k) n (fun _ _ _ _ h=>h)) rfl (by omega) (by omega) rfl)
   aw)
  (aL [.fact 0 (.one (.s))] ⟨Rw.Is 2 (If z k) n,trivial⟩) bc
section
variable {Φ:PH}{p q x n l k:Nat}{J:List Nat}{j:Nat}{z:Nat->Int}{L:List Int}
theorem mm (hp:∀w v,Φ p w v->Rw 2 (If z k) n w v) (hx:Φ x=ah 2 52 (Nf (ae L) k) L.length) (hn:n<=1000000) (hk:k<=500000) (hL:be (mk n z)=L):ai Φ Tryz.prog ⟨112,[.fact p],[oS x],.cu J j⟩:=
 pG (IA hn hk) ⟨hp,trivial⟩ ⟨⟨rfl,⟨rfl,rfl,fun _ _ h=>hx▸hL▸h⟩,trivial⟩,trivial⟩
end
def IB (z:Nat->Int) (n l k:Nat):List WP:=[Rw 2 (If z k) l,Nz n,Nz l,Nz (min n l),Rw 2 (If z k) (min n l),ah 2 52 (Nf (ae (be (mk (min n l) z))) k) ((be (mk (min n l) z)).length)]
def IC:List Step:=[bQ [.fact 0] [oN 2] (aD 28),
   bQ [.fact 1,.fact 2] [oN 3] (gm .min),
   bQ [.fact 0,.fact 3] [oS 4] (dI 28),
   .base ⟨112,[.fact 4],[oS 5],.cu [] 1⟩]
def ID:List Out:=[oS 0,oN 1]
theorem GT {z:Nat->Int}{n l k:Nat} (hn:l<=1000000) (hk:k<=500000):fO (ph (IB z n l k)) Tryz.prog ⟨124,[.fact 0,.fact 1],[oS 5],false⟩:=by
 skip
 exact nr ID [oS 5] IC Tryz.func124 (by kernel_rfl)
  (lB (aP (F:=(If z k)) Tryz.underlying28 ad rfl)
   (lB (xP ad ad (by split <;> omega) rfl)
   (lB (jX (m:=(min n l)) (n:=l) (F:=(If z k)) Tryz.underlying28 (by kernel_rfl) ad ad (by first | omega | exact aF _ _) rfl)
   (lB (mm (Rw.To 2 (If z k) (min n l) (fun _ _ _ _ h=>h)) rfl (by omega) (by omega) rfl)
   aw))))
  (aL [.fact 0 (.one (.s)),.fact 1 (.one (.i))] ⟨Rw.Is 2 (If z k) l,fun _ _ h=>h▸eQ _,trivial⟩) (fun _ _ _ h=>h)
section
variable {Φ:PH}{p q x n l k:Nat}{J:List Nat}{j:Nat}{z:Nat->Int}{L:List Int}
end
end Go.Proofs.YtbokonbbokhjlaaGreat.Sym
