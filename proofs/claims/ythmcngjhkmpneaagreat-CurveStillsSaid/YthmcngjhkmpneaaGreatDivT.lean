/- poly.trim told with the row's block; poly.Norm and pdiv.below, whose results lie in new memory. -/
import Derived.Test.YthmcngjhkmpneaaGreatPolH
import Derived.Test.YthmcngjhkmpneaaGreatPolW
set_option maxRecDepth 100000
namespace Go.Proofs.YthmcngjhkmpneaaGreat.Sym
open Go.RowKit
def fG (s:Option Addr) (c sz:Nat) (F:PH) (n:Nat) (w:World) (v:Value):Prop:=v = .slice s n c∧Rw sz F n w v
theorem Dh {sz m:Nat}:∀{rows:List (List Value)},(∀r,r ∈ rows->r.length=sz)->m<=rows.length->rows.flatten.take (m*sz)=(rows.take m).flatten:=fun {rows} h hm=>by
 have e1:rows.flatten=(rows.take m).flatten ++ (rows.drop m).flatten:=by
  rw [<- List.flatten_append,List.take_append_drop]
 have e2:(rows.take m).flatten.length=m*sz:=by
  rw [jc (sz:=sz) (fun r hr=>h r (List.mem_of_mem_take hr)),List.length_take,Nat.min_eq_left hm]
 rw [e1,<- e2,List.take_left]
theorem am.take {sz n m c:Nat}{e:TypeId}{F:PH}{w:World}{s:Option Addr} (h:am sz e F n w (.slice s n c)) (hm:m<=n):am sz e F m w (.slice s m c):=by
 obtain ⟨rows,hl,hs,ho,hF⟩:=h
 refine ⟨rows.take m,by rw [List.length_take];omega,fun r hr=>hs r (List.mem_of_mem_take hr),⟨⟨by rw [jc (sz:=sz) (fun r hr=>hs r (List.mem_of_mem_take hr)),List.length_take,Nat.min_eq_left (by omega)],?_⟩,fun g cur e' p hg hh x hx=>ho.2 g cur e' p ?_ hh x hx⟩,fun i r hr=>hF i r ?_⟩
 ·rcases ho.1.2 with ⟨h1,h2⟩ | ⟨g,cap,cur,h1,hb,hh,h3,h4,h5,h6⟩
  ·simp only [Value.slice.injEq] at h1
   obtain ⟨rfl,rfl,rfl⟩:=h1
   exact .inl ⟨by rw [show m=0 by omega],by omega⟩
  ·simp only [Value.slice.injEq] at h1
   obtain ⟨rfl,-,rfl⟩:=h1
   refine .inr ⟨g,c,cur,rfl,hb,hh,by omega,h4,h5,?_⟩
   rw [<- Dh hs (by omega),<- h6,List.take_take,Nat.min_eq_left (Nat.mul_le_mul_right _ hm)]
 ·simp only [Value.ownBlock] at hg ⊢
  cases s <;> exact hg
 ·rw [List.getElem?_take] at hr
  split at hr
  ·exact hr
  ·cases hr
section
variable {P:Program}{Φ:PH}{p q x m n c0:Nat}{s0:Option Addr}{a b:Int}
theorem ut {T e:TypeId}{sz:Nat}{F:PH} (hT:P.underlying T=some (.slice e)) (hz:dg P e=some sz) (hp:∀w v,Φ p w v->fG s0 c0 sz F n w v) (hq:∀w v,Φ q w v->v = .int .i64 (m:Int)) (hm':m<=n) (hx:Φ x=fG s0 c0 sz F m):ai Φ P ⟨0,[.fact p,.fact q],[oS x],.quiet (dX T)⟩:=fun X w ac o xs _ hm ha=>by
 unfold dX at hm
 split at hm
 case h_2=>cases hm
 rename_i t y z ho
 split at hm
 case isFalse=>cases hm
 rename_i ht
 subst ht
 simp only [Option.some.injEq] at hm
 subst hm
 obtain ⟨hv,s,c,hv',hc,he⟩:=hp _ _ (ha.1 w (Off.refl _ _))
 rw [hv] at hv'
 simp only [Value.slice.injEq,true_and] at hv'
 obtain ⟨rfl,rfl⟩:=hv'
 have hi2:=hq _ _ (ha.2.1 w (Off.refl _ _))
 refine ⟨.slice s0 m c0,w,?_,aQ w none,cH ⟨⟨_,_,_,rfl⟩,fun _ h=>by cases h⟩ hx fun w1 hw=>⟨rfl,?_⟩⟩
 ·unfold execOp
  have h0:(0:Int)<=(m:Int):=Int.natCast_nonneg m
  have h1:(m:Int)<=(c0:Int):=by omega
  have ha0:(s0.map fun y=>y.add 0)=s0:=by cases s0 <;> simp [Addr.add_zero']
  simp only [ho,Option.map_none,Option.map_some,hv,hi2]
  simp [Instr.sliceAt,Instr.slice,run_underlying hT,Instr.sliceBounds,run_sliceBound (P:=P) w .i64 (m:Int) c0 .sliceAcap h0 h1,run_sizeOf hz,ha0]
 ·obtain ⟨hv1,s',c',hv',hc',he'⟩:=hp _ _ (ha.1 w1 hw)
  rw [hv1] at hv'
  simp only [Value.slice.injEq,true_and] at hv'
  obtain ⟨rfl,rfl⟩:=hv'
  exact ⟨s0,c0,rfl,by omega,fun i hi=>he' i (by omega)⟩
theorem Be {c:Int} (hp:∀w v,Φ p w v->v = .int .i64 a) (hq:∀w v,Φ q w v->v = .int .i64 b) (hc:a-b=c) (hx:Φ x=Ni c) (h1 : -9223372036854775808<=c) (h2:c<=9223372036854775807):ai Φ P ⟨0,[.fact p,.fact q],[oN x],.quiet (au .sub)⟩:=fun X w ac o xs _ hm ha=>by
 obtain ⟨t,y,z,yt,ho,rfl⟩:=ji hm
 refine ⟨.int .i64 c,w,?_,aQ w none,cH (dl c) hx fun _ _=>rfl⟩
 refine jj ho (hp _ _ (ha.1 w (Off.refl _ _))) (hq _ _ (ha.2.1 w (Off.refl _ _))) ?_
 subst hc
 simp [binOp,Op.intArith,IntWalk.i64_in _ ⟨h1,h2⟩]
theorem A6 {c:Int} (hp:∀w v,Φ p w v->v = .int .i64 b) (hc:(if b > a then b else a)=c) (hx:Φ x=Ni c):ai Φ P ⟨0,[.lit (.ci .i64 a),.fact p],[oN x],.quiet (gw .max)⟩:=fun X w ac o xs _ hm ha=>by
 obtain ⟨args,ts,ho,rfl⟩:=uu hm
 obtain ⟨u,v,huv⟩:∃u v,args.toList.map ac.eval = [u,v]:=by
  match args.toList.map ac.eval,ha with
  | [u,v],_=>exact ⟨u,v,rfl⟩
 rw [huv] at ha
 obtain ⟨y,z,rfl,h1,h2⟩:=uw huv
 have e1:u = .int .i64 a:=ha.1
 have e2:=hp _ _ (ha.2.1 w (Off.refl _ _))
 refine ⟨.int .i64 c,w,?_,aQ w none,cH (dl c) hx fun _ _=>rfl⟩
 unfold execOp
 simp [ho,resolve,invoke,builtin,h1,h2,e1,e2,run_max_int2,hc]
end
def pA (F:PH) (z:Nat->Int) (n0 c0:Nat) (s0:Option Addr):List WP:=[fG s0 c0 2 F n0,Nz n0,Ni ((tl z n0:Nat):Int),fG s0 c0 2 F (tl z n0)]
def Di (F:PH) (z:Nat->Int) (n0:Nat) (j:Nat):List WP:=[Nz (n0-j),Nz (n0-(j+1)),Ptr 2 (F (n0-(j+1))),F (n0-(j+1)),Nw 0 0,Ni (cj (z (n0-(j+1))) (0:Int)),Nz (n0-(j+1))]
def ux:bj:=⟨[0,2,4,5],[(.slot 3,.i)],[(.one 0,4)],[.frm 1],4,[(4,2)]⟩
def uy:List Step:=[.derive (.agg [.cb false,.nl]) (.agg [.lit (.cb false),.lit (.nl)]) [] 8,
   bQ [.fact 4,.lit (.ci .i64 0)] oT (au .gtr),
   bQ [.fact 4,.lit (.ci .i64 1)] [oN 5] (au .sub),
   bQ [.fact 0,.fact 5] [oP 6] (aO 28),
   bQ [.fact 6] [oI 7] (aS 51),
   .base ⟨74,[.fact 7,.fact 8],[oN 9],false⟩,
   bQ [.fact 9,.lit (.ci .i64 0)] oT (au .eql),
   bQ [.fact 4,.lit (.ci .i64 1)] [oN 10] (au .sub)]
def Dj:List Step:=[bQ [.fact 4,.lit (.ci .i64 0)] oF (au .gtr)]
def Dk:List Step:=[bQ [.fact 0] [oN 1] (aI 28),
   .loop ux [(uy,[.frm 10])] Dj,
   bQ [.fact 0,.fact 2] [oS 3] (dX 28)]
def Do:List Out:=[oS 0]
theorem Dp {F:PH}{z:Nat->Int}{n0 k c0:Nat}{s0:Option Addr} (hF:∀i w v,F i w v->aj w v (z i) k) (hK:∀i w w1 v,Kp w w1->F i w v->F i w1 v) (hn:n0<=1000000) (hk:k<=500000) (ht:tl z n0=0):ai (ph (pA F z n0 c0 s0)) Tryz.prog ⟨66,[.fact 0],[oS 3],false⟩:=by
 have hle:=aV z n0
 exact bg Do [oS 3] Dk Tryz.func66 (by kernel_rfl)
  (lB (kE (sz:=2) (n:=n0) (F:=F) Tryz.underlying28 (fun _ _ h=>Rw.arr h.2) rfl)
   (bN (counted (n0-tl z n0) (fun j=>ph (pA F z n0 c0 s0 ++ Di F z n0 j)) (fun _=>0) (fun j p hp=>bO (show p<(pA F z n0 c0 s0).length from hp)) ⟨ad,trivial⟩ (fun j hj=>by
   have h0:z (n0-(j+1))=0:=fX z n0 _ (by omega) (by omega)
   exact ⟨(uy,[.frm 10]),rfl,⟨ad,trivial⟩,(eD (iq rfl)
   (lB (fA ad)
   (lB (cI ad (by omega) rfl (by omega) (by omega))
   (lB (kF (i:=(n0-(j+1))) (sz:=2) (n:=n0) (F:=F) Tryz.underlying28 (by kernel_rfl) (fun _ _ h=>Rw.arr h.2) ad (by omega) rfl)
   (lB (bK (sz:=2) (F:=F (n0-(j+1))) (by kernel_rfl) (by kernel_rfl) ad (fun w w1 v g h=>hK (n0-(j+1)) w w1 v g h) (fun w v h=>aj.is (hF (n0-(j+1)) w v h)) rfl)
   (lB (ir (hF (n0-(j+1))) nI rfl (by omega) rfl)
   (lB (cn (op:=.eql) ad (cw (decide_eq_true (by rw [h0];rfl)) (by simp)))
   (lB (cI ad (by omega) rfl (by omega) (by omega))
   aC))))))))⟩)
   (by
   have hle:=aV z n0
   exact (lB (l9 ad)
   aC))
   (fun q hq w v h=>by
    simp only [ux,List.mem_cons,List.not_mem_nil,or_false] at hq
    rcases hq with rfl
    ·exact (fun h=>h.trans (congrArg (Value.int .i64) (by have:=aV z n0;omega))) h)) (lB (ut (m:=(tl z n0)) (n:=n0) (F:=F) Tryz.underlying28 (by kernel_rfl) ad ad (by first | omega | exact aV _ _) rfl)
   aC)))
  (aK [.fact 0 (.one (.s))] ⟨fun _ _ h=>Rw.is (sz:=2) (F:=F) (n:=n0) h.2,trivial⟩) bh
def pB (F:PH) (z:Nat->Int) (n0 c0:Nat) (s0:Option Addr):List WP:=[fG s0 c0 2 F n0,Nz n0,Ni ((tl z n0:Nat):Int),fG s0 c0 2 F (tl z n0)]
def Dq (F:PH) (z:Nat->Int) (n0:Nat) (j:Nat):List WP:=[Nz (n0-j),Nz (n0-(j+1)),Ptr 2 (F (n0-(j+1))),F (n0-(j+1)),Nw 0 0,Ni (cj (z (n0-(j+1))) (0:Int)),Nz (n0-(j+1)),Nz (tl z n0-1),Ptr 2 (F (tl z n0-1)),F (tl z n0-1),Nw 0 0,Ni (cj (z (tl z n0-1)) (0:Int))]
def uz:bj:=⟨[0,2,4,5],[(.slot 3,.i)],[(.one 0,4)],[.frm 1],4,[(4,2)]⟩
def uA:List Step:=[.derive (.agg [.cb false,.nl]) (.agg [.lit (.cb false),.lit (.nl)]) [] 8,
   bQ [.fact 4,.lit (.ci .i64 0)] oT (au .gtr),
   bQ [.fact 4,.lit (.ci .i64 1)] [oN 5] (au .sub),
   bQ [.fact 0,.fact 5] [oP 6] (aO 28),
   bQ [.fact 6] [oI 7] (aS 51),
   .base ⟨74,[.fact 7,.fact 8],[oN 9],false⟩,
   bQ [.fact 9,.lit (.ci .i64 0)] oT (au .eql),
   bQ [.fact 4,.lit (.ci .i64 1)] [oN 10] (au .sub)]
def Dr:List Step:=[.derive (.agg [.cb false,.nl]) (.agg [.lit (.cb false),.lit (.nl)]) [] 14,
   bQ [.fact 4,.lit (.ci .i64 0)] oT (au .gtr),
   bQ [.fact 4,.lit (.ci .i64 1)] [oN 11] (au .sub),
   bQ [.fact 0,.fact 11] [oP 12] (aO 28),
   bQ [.fact 12] [oI 13] (aS 51),
   .base ⟨74,[.fact 13,.fact 14],[oN 15],false⟩,
   bQ [.fact 15,.lit (.ci .i64 0)] oF (au .eql)]
def Ds:List Step:=[bQ [.fact 0] [oN 1] (aI 28),
   .loop uz [(uA,[.frm 10])] Dr,
   bQ [.fact 0,.fact 2] [oS 3] (dX 28)]
def Dt:List Out:=[oS 0]
theorem Du {F:PH}{z:Nat->Int}{n0 k c0:Nat}{s0:Option Addr} (hF:∀i w v,F i w v->aj w v (z i) k) (hK:∀i w w1 v,Kp w w1->F i w v->F i w1 v) (hn:n0<=1000000) (hk:k<=500000) (ht:0<tl z n0):ai (ph (pB F z n0 c0 s0)) Tryz.prog ⟨66,[.fact 0],[oS 3],false⟩:=by
 have hle:=aV z n0
 exact bg Dt [oS 3] Ds Tryz.func66 (by kernel_rfl)
  (lB (kE (sz:=2) (n:=n0) (F:=F) Tryz.underlying28 (fun _ _ h=>Rw.arr h.2) rfl)
   (bN (counted (n0-tl z n0) (fun j=>ph (pB F z n0 c0 s0 ++ Dq F z n0 j)) (fun _=>0) (fun j p hp=>bO (show p<(pB F z n0 c0 s0).length from hp)) ⟨ad,trivial⟩ (fun j hj=>by
   have h0:z (n0-(j+1))=0:=fX z n0 _ (by omega) (by omega)
   exact ⟨(uA,[.frm 10]),rfl,⟨ad,trivial⟩,(eD (iq rfl)
   (lB (fA ad)
   (lB (cI ad (by omega) rfl (by omega) (by omega))
   (lB (kF (i:=(n0-(j+1))) (sz:=2) (n:=n0) (F:=F) Tryz.underlying28 (by kernel_rfl) (fun _ _ h=>Rw.arr h.2) ad (by omega) rfl)
   (lB (bK (sz:=2) (F:=F (n0-(j+1))) (by kernel_rfl) (by kernel_rfl) ad (fun w w1 v g h=>hK (n0-(j+1)) w w1 v g h) (fun w v h=>aj.is (hF (n0-(j+1)) w v h)) rfl)
   (lB (ir (hF (n0-(j+1))) nI rfl (by omega) rfl)
   (lB (cn (op:=.eql) ad (cw (decide_eq_true (by rw [h0];rfl)) (by simp)))
   (lB (cI ad (by omega) rfl (by omega) (by omega))
   aC))))))))⟩)
   (by
   have hle:=aV z n0;have hl:=gy z n0 ht
   exact (eD (iq rfl)
   (lB (fA ad)
   (lB (cI ad (by omega) rfl (by omega) (by omega))
   (lB (kF (i:=(tl z n0-1)) (sz:=2) (n:=n0) (F:=F) Tryz.underlying28 (by kernel_rfl) (fun _ _ h=>Rw.arr h.2) ad (by omega) rfl)
   (lB (bK (sz:=2) (F:=F (tl z n0-1)) (by kernel_rfl) (by kernel_rfl) ad (fun w w1 v g h=>hK (tl z n0-1) w w1 v g h) (fun w v h=>aj.is (hF (tl z n0-1) w v h)) rfl)
   (lB (ir (hF (tl z n0-1)) nI rfl (by omega) rfl)
   (lB (cn (op:=.eql) ad (cw (decide_eq_false (fun h=>hl (pC h))) (by simp)))
   aC))))))))
   (fun q hq w v h=>by
    simp only [uz,List.mem_cons,List.not_mem_nil,or_false] at hq
    rcases hq with rfl
    ·exact (fun h=>h.trans (congrArg (Value.int .i64) (by have:=aV z n0;omega))) h)) (lB (ut (m:=(tl z n0)) (n:=n0) (F:=F) Tryz.underlying28 (by kernel_rfl) ad ad (by first | omega | exact aV _ _) rfl)
   aC)))
  (aK [.fact 0 (.one (.s))] ⟨fun _ _ h=>Rw.is (sz:=2) (F:=F) (n:=n0) h.2,trivial⟩) bh
section
variable {Φ:PH}{p x n k:Nat}{z:Nat->Int}{F:PH}
theorem Dx {s0:Option Addr}{c0:Nat} (hp:∀w v,Φ p w v->fG s0 c0 2 F n w v) (hF:∀i w v,F i w v->aj w v (z i) k) (hK:∀i w w1 v,Kp w w1->F i w v->F i w1 v) (hx:Φ x=fG s0 c0 2 F (tl z n)) (hn:n<=1000000) (hk:k<=500000):ai Φ Tryz.prog ⟨66,[.fact p],[oS x],false⟩:=by
 rcases Nat.eq_zero_or_pos (tl z n) with h | h
 ·exact bi (Dp hF hK hn hk h) ⟨hp,trivial⟩ ⟨⟨rfl,⟨rfl,rfl,fun _ _ h=>hx▸h⟩,trivial⟩,trivial⟩
 ·exact bi (Du hF hK hn hk h) ⟨hp,trivial⟩ ⟨⟨rfl,⟨rfl,rfl,fun _ _ h=>hx▸h⟩,trivial⟩,trivial⟩
theorem Dy {j:Nat} (hp:∀w v,Φ p w v->am 2 51 F n w v) (hF:∀i w v,F i w v->aj w v (z i) k) (hK:∀i w w1 v,Kp w w1->F i w v->F i w1 v) (hx:Φ x=am 2 51 F (tl z n)) (hn:n<=1000000) (hk:k<=500000):ai Φ Tryz.prog ⟨66,[.fact p],[oS x],.kG [] j 0⟩:=fun X L w vs hX hL hLX ha hb=>by
 match vs,ha with
 | [v],ha=>
  have h1:=hp _ _ (ha.1 w (Off.refl _ _))
  obtain ⟨s0,c0,rfl,hc,he⟩:=h1.rw
  refine (Dx (Φ:=ph [fG s0 c0 2 F n,fG s0 c0 2 F (tl z n)]) (p:=0) (x:=1) (s0:=s0) (c0:=c0) ad hF hK rfl hn hk X w [.slice s0 n c0] hX ⟨fun w1 hw=>⟨rfl,(hp _ _ (ha.1 w1 hw)).rw⟩,trivial⟩).mono fun e w' ⟨hg,us,he,ho⟩=>?_
  match us,ho with
  | [u],ho=>
   have hu:=ho.1.2 _ (List.mem_singleton.2 rfl) w' (Off.refl _ _)
   obtain ⟨rfl,-⟩:u = .slice s0 (tl z n) c0∧_:=hu
   refine ⟨hg,_,he,cH ⟨⟨_,_,_,rfl⟩,fun _ h=>by cases h⟩ hx fun w1 hw=>(hp _ _ (ha.1 w1 ((Off.grown hg).trans hw fun _ _ h=>h))).take (aV z n),fun g hg'=>?_⟩
   have hg2:blk (.slice s0 n c0)=some g:=by
    revert hg'
    cases s0 <;> exact fun h=>h
   have h3:=hb _ g rfl hg2
   exact ⟨Nat.lt_of_lt_of_le (hL g h3) hg.size,.inl h3⟩
end
def pE (z:Nat->Int) (n k:Nat):List WP:=[Rw 2 (If z k) n,Nz n,am 2 51 (Nf (upto 0 z) k) n,Nz n,am 2 51 (Nf (upto n z) k) n,am 2 51 (Nf (upto n z) k) (tl (upto n z) n)]
def Dz (z:Nat->Int) (n k:Nat) (j:Nat):List WP:=[Nz j,am 2 51 (Nf (upto j z) k) n,fun _ _=>True,Ptr 2 (Iw (z j) k),Iw (z j) k,Nw (z j) k,At 2,Ptr 2 (Nw ((upto j z) j) k),fun w v=>am 2 51 (fun ι w v=>ak w v ((upto (j+1) z) ι) k) n w v,Nz (j+1)]
def uB:bj:=⟨[0,1,4,8,9,10,11,12],[(.slot 13,.i),(.slot 5,.s)],[(.one 0,6),(.one 1,.bZ [1] 7),(.one 1,.lo 1)],[.closed (.one (.ci .i64 0)),.frm 2,.frm 0],6,[(7,4)]⟩
def uC:List Step:=[bQ [.fact 6,.fact 3] oT (au .lss),
   bQ [.fact 0,.fact 6] [oP 9] (aO 28),
   bQ [.fact 9] [oI 10] (aS 51),
   .base ⟨93,[.fact 10],[oI 11],false⟩,
   .base ⟨0,[.fact 7,.fact 6],[oP 13],.joint [1] 12 (aO 28)⟩,
   .base ⟨0,[.fact 7,.fact 6,.any,.fact 11],[oS 14],.put [] 1 0 12 (eN 51 (.tmp 18) (.tmp 19))⟩,
   bQ [.fact 6,.lit (.ci .i64 1)] [oN 15] (au .add)]
def DA:List Step:=[bQ [.fact 6,.fact 3] oF (au .lss)]
def DB:List Step:=[bQ [.fact 0] [oN 1] (aI 28),
   .base ⟨0,[.fact 1,.fact 1],[oS 2],.loose [] 1 0 (ff 28)⟩,
   bQ [.fact 0] [oN 3] (aI 28),
   .loop uB [(uC,[.frm 15,.frm 14,.frm 0])] DA,
   .base ⟨66,[.fact 4],[oS 5],.kG [] 1 0⟩]
def DC:List Out:=[oS 0,⟨.one (.lit (.fn 93)),[]⟩]
theorem DD {z:Nat->Int}{n k:Nat} (hn:n<=1000000) (hk:k<=500000):er (ph (pE z n k)) Tryz.prog ⟨135,[.fact 0,.lit (.fn 93)],[oS 5],false⟩:=by
 skip
 exact jV DC [oS 5] DB Tryz.func135 (by kernel_rfl)
  (lB (a9 (F:=(If z k)) Tryz.underlying28 ad rfl)
   (lB (rh (n:=n) (F:=(Nf (upto 0 z) k)) ad (by omega) (fun i w=>ak.zero w k) rfl)
   (lB (a9 (F:=(If z k)) Tryz.underlying28 ad rfl)
   (bN (counted n (fun j=>ph (pE z n k ++ Dz z n k j)) (fun _=>0) (fun j p hp=>bO (show p<(pE z n k).length from hp)) ⟨fun _=>rfl,ad,bp,trivial⟩ (fun j hj=>by
   skip
   exact ⟨(uC,[.frm 15,.frm 14,.frm 0]),rfl,⟨ad,ad,bp,trivial⟩,(lB (cA ad ad)
   (lB (b6 (i:=j) (F:=(If z k)) Tryz.underlying28 (by kernel_rfl) ad ad (by omega) rfl)
   (lB (bK (sz:=2) (F:=Iw (z j) k) (by kernel_rfl) (by kernel_rfl) ad (fun _ _ _ g h=>aj.kp h g) (fun _ _ h=>aj.is h) rfl)
   (lB (uD iI rfl (by omega) rfl)
   (lB (dY (i:=j) (sz:=2) (n:=n) (F:=(Nf (upto j z) k)) Tryz.underlying28 (by kernel_rfl) (fun _ _ h=>am.arr h) ad (by omega) rfl rfl)
   (lB (fB (i:=j) (n:=n) (F:=(fun ι w v=>ak w v ((upto j z) ι) k)) (F':=(fun ι w v=>ak w v ((upto (j+1) z) ι) k)) (G:=Nw (z j) k) (.tmp 18) (.tmp 19) (by kernel_rfl) ad ad (by omega) ad rfl (fun _ _ h=>ak.cells h) (fun _ _ _ _ g h=>ak.kp h g) (fun _ _ _ g h=>ak.kp h g) (fun i w v hi h=>by rw [kH hi];exact h) (fun w v h=>h.eq (kJ j z).symm) rfl)
   (lB (cO ad (by omega) rfl (by omega) (by omega))
   aC)))))))⟩)
   (lB (tlF ad ad)
   aC)
   (fun q hq w v h=>by
    simp only [uB,List.mem_cons,List.not_mem_nil,or_false] at hq
    rcases hq with rfl
    ·exact (fun h=>h) h)) (lB (Dy (z:=(upto n z)) (n:=n) (k:=k) (F:=(Nf (upto n z) k)) ad (fun _ _ _ h=>ak.i h) (fun _ _ _ _ g h=>ak.kp h g) rfl (by omega) (by omega))
   aC)))))
  (aK [.fact 0 (.one (.s)),.lit (.fn 93)] ⟨Rw.Is 2 (If z k) n,(fun _ h=>by cases h),trivial⟩) bh
section
variable {Φ:PH}{p q x n l k:Nat}{J:List Nat}{j:Nat}{z:Nat->Int}{L:List Int}
theorem DE {Z:Nat->Int}{w:World}{v:Value} (h:am 2 51 (Nf (upto n Z) k) (tl (upto n Z) n) w v):am 2 51 (Nf (an (aP (mk n Z))) k) (aP (mk n Z)).length w v:=by
 rw [fe,<- show tl (upto n Z) n=tl Z n from mC fun i hi=>fH hi]
 exact h.to fun i w v hi h=>h.eq (by
  have:=aV (upto n Z) n
  rw [kf,eu,if_pos (by omega),fH (by omega)])
theorem DF (hp:∀w v,Φ p w v->Rw 2 (If z k) n w v) (hx:Φ x=am 2 51 (Nf (an L) k) L.length) (hn:n<=1000000) (hk:k<=500000) (hL:aP (mk n z)=L):ai Φ Tryz.prog ⟨135,[.fact p,.lit (.fn 93)],[oS x],.et J j⟩:=
 jW (DD hn hk) ⟨hp,rfl,trivial⟩ ⟨⟨rfl,⟨rfl,rfl,fun _ _ h=>hx▸hL▸DE h⟩,trivial⟩,trivial⟩
end
def DG (z:Nat->Int) (n k:Nat):List WP:=[Rw 2 (If z k) n,am 2 51 (Nf (an (aP (mk n z))) k) ((aP (mk n z)).length)]
def DH:List Step:=[.base ⟨135,[.fact 0,.lit (.fn 93)],[oS 1],.et [] 1⟩]
def DI:List Out:=[oS 0]
theorem DJ {z:Nat->Int}{n k:Nat} (hn:n<=1000000) (hk:k<=500000):er (ph (DG z n k)) Tryz.prog ⟨89,[.fact 0],[oS 1],false⟩:=by
 skip
 exact jV DI [oS 1] DH Tryz.func89 (by kernel_rfl)
  (lB (DF (Rw.To 2 (If z k) n (fun _ _ _ _ h=>h)) rfl (by omega) (by omega) rfl)
   aC)
  (aK [.fact 0 (.one (.s))] ⟨Rw.Is 2 (If z k) n,trivial⟩) bh
section
variable {Φ:PH}{p q x n l k:Nat}{J:List Nat}{j:Nat}{z:Nat->Int}{L:List Int}
theorem Bl (hp:∀w v,Φ p w v->Rw 2 (If z k) n w v) (hx:Φ x=am 2 51 (Nf (an L) k) L.length) (hn:n<=1000000) (hk:k<=500000) (hL:aP (mk n z)=L):ai Φ Tryz.prog ⟨89,[.fact p],[oS x],.et J j⟩:=
 jW (DJ hn hk) ⟨hp,trivial⟩ ⟨⟨rfl,⟨rfl,rfl,fun _ _ h=>hx▸hL▸h⟩,trivial⟩,trivial⟩
end
section
variable {Φ:PH}{p q x n l k:Nat}{J:List Nat}{j:Nat}{z:Nat->Int}{L:List Int}
end
end Go.Proofs.YthmcngjhkmpneaaGreat.Sym
