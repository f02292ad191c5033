/- poly.trim told with the -/
import Derived.Test.YtbjfgffibepmkaaGreatPolH
import Derived.Test.YtbjfgffibepmkaaGreatPolW
set_option maxRecDepth 100000
namespace Go.Proofs.YtbjfgffibepmkaaGreat.Sym
open Go.Proofs.Tryz
open Go.RowKit
variable {c0 k m n n0 sz:Nat}{e:TypeId}{F:PH}{w:World}{z:Nat->Int}{s0:Option Addr}
def iF (s:Option Addr) (c sz:Nat) (F:PH) (n:Nat) (w:World) (v:Value):Prop:=v = .slice s n c∧Rw sz F n w v
theorem JD :∀{rows:List (List Value)},(∀r,r ∈ rows->r.length=sz)->m<=rows.length->rows.flatten.take (m*sz)=(rows.take m).flatten:=fun {rows} h hm=>by
 have e1:rows.flatten=(rows.take m).flatten ++ (rows.drop m).flatten:=by
  rw [<- List.flatten_append,List.take_append_drop]
 have e2:(rows.take m).flatten.length=m*sz:=by
  rw [jc (sz:=sz) (fun r hr=>h r (List.mem_of_mem_take hr)),List.length_take,Nat.min_eq_left hm]
 rw [e1,<- e2,List.take_left]
theorem aC.take {c:Nat}{s:Option Addr} (h:aC sz e F n w (.slice s n c)) (hm:m<=n):aC sz e F m w (.slice s m c):=by
 obtain ⟨rows,hl,hs,ho,hF⟩:=h
 refine ⟨rows.take m,by rw [List.length_take];omega,fun r hr=>hs r (List.mem_of_mem_take hr),⟨⟨by rw [jc (sz:=sz) (fun r hr=>hs r (List.mem_of_mem_take hr)),List.length_take,Nat.min_eq_left (by omega)],?_⟩,fun g cur e' p hg hh x hx=>ho.2 g cur e' p ?_ hh x hx⟩,fun i r hr=>hF i r ?_⟩
 ·rcases ho.1.2 with ⟨h1,h2⟩ | ⟨g,cap,cur,h1,hb,hh,h3,h4,h5,h6⟩
  ·simp only [Value.slice.injEq] at h1
   obtain ⟨rfl,rfl,rfl⟩:=h1
   exact .inl ⟨by rw [show m=0 by omega],by omega⟩
  ·simp only [Value.slice.injEq] at h1
   obtain ⟨rfl,-,rfl⟩:=h1
   refine .inr ⟨g,c,cur,rfl,hb,hh,by omega,h4,h5,?_⟩
   rw [<- JD hs (by omega),<- h6,List.take_take,Nat.min_eq_left (Nat.mul_le_mul_right _ hm)]
 ·simp only [Value.ownBlock] at hg ⊢
  cases s <;> exact hg
 ·rw [List.getElem?_take] at hr
  split at hr
  ·exact hr
  ·cases hr
section
variable {P:Program}{Φ:PH}{p q x:Nat}{a b:Int}
theorem yS {T:TypeId} (hT:P.underlying T=some (.slice e)) (hp:∀w v,Φ p w v->iF s0 c0 sz F n w v) (hq:∀w v,Φ q w v->v = .int .i64 (m:Int)) (hm':m<=n) (hx:Φ x=iF s0 c0 sz F m) (hz:dg P e=some sz:=by kernel_rfl):aj Φ P ⟨0,[.fact p,.fact q],[oS x],.quiet (er T)⟩:=fun X w ac o xs _ hm ha=>by
 unfold er at hm
 split at hm
 case h_2=>cases hm
 rename_i t y z ho
 split at hm
 case isFalse=>cases hm
 rename_i ht
 subst ht
 simp only [Option.some.injEq] at hm
 subst hm
 obtain ⟨hv,s,c,hv',hc,he⟩:=hp _ _ (ha.1 w (Off.refl _ _))
 rw [hv] at hv'
 simp only [Value.slice.injEq,true_and] at hv'
 obtain ⟨rfl,rfl⟩:=hv'
 have hi2:=hq _ _ (ha.2.1 w (Off.refl _ _))
 refine ⟨.slice s0 m c0,w,?_,bt w none,cP ⟨⟨_,_,_,rfl⟩,fun _ h=>by cases h⟩ hx fun w1 hw=>⟨rfl,?_⟩⟩
 ·unfold execOp
  have h0:(0:Int)<=(m:Int):=Int.natCast_nonneg m
  have h1:(m:Int)<=(c0:Int):=by omega
  have ha0:(s0.map fun y=>y.add 0)=s0:=by cases s0 <;> simp [Addr.add_zero']
  simp only [ho,Option.map_none,Option.map_some,hv,hi2]
  simp [Instr.sliceAt,Instr.slice,run_underlying hT,Instr.sliceBounds,run_sliceBound (P:=P) w .i64 (m:Int) c0 .sliceAcap h0 h1,run_sizeOf hz,ha0]
 ·obtain ⟨hv1,s',c',hv',hc',he'⟩:=hp _ _ (ha.1 w1 hw)
  rw [hv1] at hv'
  simp only [Value.slice.injEq,true_and] at hv'
  obtain ⟨rfl,rfl⟩:=hv'
  exact ⟨s0,c0,rfl,by omega,fun i hi=>he' i (by omega)⟩
end
def th (F:PH) (z:Nat->Int) (n0 c0:Nat) (s0:Option Addr):List WP:=[iF s0 c0 2 F n0,Nz n0,Ni ((tl z n0:Nat):Int),iF s0 c0 2 F (tl z n0)]
def JE (F:PH) (z:Nat->Int) (n0:Nat) (j:Nat):List WP:=[Nz (n0-j),Nz (n0-(j+1)),Ptr 2 (F (n0-(j+1))),F (n0-(j+1)),Nw 0 0,Ni (dG (z (n0-(j+1))) (0:Int)),Nz (n0-(j+1))]
def yT:bJ:=⟨[0,2,4,5],[(.slot 3,.i)],[(.one 0,4)],[.frm 1],4,[(4,2)]⟩
def yU:List Step:=[.derive (.agg [.cb false,.nl]) (.agg [.lit (.cb false),.lit (.nl)]) [] 8,bQ [4,.lit (.ci .i64 0)] oT (au .gtr),bQ [4,.lit (.ci .i64 1)] [oN 5] (au .sub),bQ [0,5] [oP 6] (aN 24),bQ [6] [oI 7] (aO 27),.base ⟨138,[7,8],[oN 9],false⟩,bQ [9,.lit (.ci .i64 0)] oT (au .eql),bQ [4,.lit (.ci .i64 1)] [oN 10] (au .sub)]
def JF:List Step:=[bQ [4,.lit (.ci .i64 0)] oF (au .gtr)]
def JG:List Step:=[bQ [0] [oN 1] (aK 24),.loop yT [(yU,[.frm 10])] JF,bQ [0,2] [oS 3] (er 24)]
def JH:List Out:=[oS 0]
theorem JI  (hF:∀i w v,F i w v->aF w v (z i) k) (hK:∀i w w1 v,Kp w w1->F i w v->F i w1 v) (hn:n0<=1000000) (hk:k<=500000) (ht:tl z n0=0):aj (ph (th F z n0 c0 s0)) prog ⟨105,[0],[oS 3],false⟩:=by
 have hle:=bi z n0
 exact aQ JH [oS 3] JG func105 (by kernel_rfl) (lB (nD (sz:=2) (n:=n0) (F:=F) underlying24 (fun _ _ h=>Rw.arr h.2) rfl) (cm (counted (n0-tl z n0) (fun j=>ph (th F z n0 c0 s0 ++ JE F z n0 j)) (fun _=>0) (fun j p hp=>cn (show p<(th F z n0 c0 s0).length from hp)) ⟨ad,trivial⟩ (fun j hj=>by
   have h0:z (n0-(j+1))=0:=iG z n0 _ (by omega) (by omega)
   exact ⟨(yU,[.frm 10]),rfl,⟨ad,trivial⟩,(ba (kM rfl) (lB (gB ad) (lB (eg ad rfl) (lB (nE (i:=(n0-(j+1))) (sz:=2) (n:=n0) (F:=F) underlying24 (by kernel_rfl) (fun _ _ h=>Rw.arr h.2) ad (by omega) rfl) (lB (cU (sz:=2) (F:=F (n0-(j+1))) ad (fun w w1 v g h=>hK (n0-(j+1)) w w1 v g h) (fun w v h=>aF.is (hF (n0-(j+1)) w v h)) rfl) (lB (mf (hF (n0-(j+1))) nI rfl rfl) (lB (cB (op:=.eql) ad (cj (decide_eq_true (by rw [h0];rfl)) (by simp))) (lB (eg ad rfl) aD))))))))⟩)
   (by
   have hle:=bi z n0
   exact (lB (kD ad) aD))
   (fun q hq w v h=>by
    simp only [yT,List.mem_cons,List.not_mem_nil,or_false] at hq
    rcases hq with rfl
    ·exact (fun h=>h.trans (congrArg (Value.int .i64) (by have:=bi z n0;omega))) h)) (lB (yS (m:=(tl z n0)) (n:=n0) (F:=F) underlying24 ad ad (by first | omega | exact bi _ _) rfl) aD)))
  (aM [.fact 0 (.one (.s))] ⟨fun _ _ h=>Rw.is (sz:=2) (F:=F) (n:=n0) h.2,trivial⟩) aV
def ti (F:PH) (z:Nat->Int) (n0 c0:Nat) (s0:Option Addr):List WP:=[iF s0 c0 2 F n0,Nz n0,Ni ((tl z n0:Nat):Int),iF s0 c0 2 F (tl z n0)]
def JJ (F:PH) (z:Nat->Int) (n0:Nat) (j:Nat):List WP:=[Nz (n0-j),Nz (n0-(j+1)),Ptr 2 (F (n0-(j+1))),F (n0-(j+1)),Nw 0 0,Ni (dG (z (n0-(j+1))) (0:Int)),Nz (n0-(j+1)),Nz (tl z n0-1),Ptr 2 (F (tl z n0-1)),F (tl z n0-1),Nw 0 0,Ni (dG (z (tl z n0-1)) (0:Int))]
def yV:bJ:=⟨[0,2,4,5],[(.slot 3,.i)],[(.one 0,4)],[.frm 1],4,[(4,2)]⟩
def yW:List Step:=[.derive (.agg [.cb false,.nl]) (.agg [.lit (.cb false),.lit (.nl)]) [] 8,bQ [4,.lit (.ci .i64 0)] oT (au .gtr),bQ [4,.lit (.ci .i64 1)] [oN 5] (au .sub),bQ [0,5] [oP 6] (aN 24),bQ [6] [oI 7] (aO 27),.base ⟨138,[7,8],[oN 9],false⟩,bQ [9,.lit (.ci .i64 0)] oT (au .eql),bQ [4,.lit (.ci .i64 1)] [oN 10] (au .sub)]
def JK:List Step:=[.derive (.agg [.cb false,.nl]) (.agg [.lit (.cb false),.lit (.nl)]) [] 14,bQ [4,.lit (.ci .i64 0)] oT (au .gtr),bQ [4,.lit (.ci .i64 1)] [oN 11] (au .sub),bQ [0,11] [oP 12] (aN 24),bQ [12] [oI 13] (aO 27),.base ⟨138,[13,14],[oN 15],false⟩,bQ [15,.lit (.ci .i64 0)] oF (au .eql)]
def JL:List Step:=[bQ [0] [oN 1] (aK 24),.loop yV [(yW,[.frm 10])] JK,bQ [0,2] [oS 3] (er 24)]
def JM:List Out:=[oS 0]
theorem JN  (hF:∀i w v,F i w v->aF w v (z i) k) (hK:∀i w w1 v,Kp w w1->F i w v->F i w1 v) (hn:n0<=1000000) (hk:k<=500000) (ht:0<tl z n0):aj (ph (ti F z n0 c0 s0)) prog ⟨105,[0],[oS 3],false⟩:=by
 have hle:=bi z n0
 exact aQ JM [oS 3] JL func105 (by kernel_rfl) (lB (nD (sz:=2) (n:=n0) (F:=F) underlying24 (fun _ _ h=>Rw.arr h.2) rfl) (cm (counted (n0-tl z n0) (fun j=>ph (ti F z n0 c0 s0 ++ JJ F z n0 j)) (fun _=>0) (fun j p hp=>cn (show p<(ti F z n0 c0 s0).length from hp)) ⟨ad,trivial⟩ (fun j hj=>by
   have h0:z (n0-(j+1))=0:=iG z n0 _ (by omega) (by omega)
   exact ⟨(yW,[.frm 10]),rfl,⟨ad,trivial⟩,(ba (kM rfl) (lB (gB ad) (lB (eg ad rfl) (lB (nE (i:=(n0-(j+1))) (sz:=2) (n:=n0) (F:=F) underlying24 (by kernel_rfl) (fun _ _ h=>Rw.arr h.2) ad (by omega) rfl) (lB (cU (sz:=2) (F:=F (n0-(j+1))) ad (fun w w1 v g h=>hK (n0-(j+1)) w w1 v g h) (fun w v h=>aF.is (hF (n0-(j+1)) w v h)) rfl) (lB (mf (hF (n0-(j+1))) nI rfl rfl) (lB (cB (op:=.eql) ad (cj (decide_eq_true (by rw [h0];rfl)) (by simp))) (lB (eg ad rfl) aD))))))))⟩)
   (by
   have hle:=bi z n0;have hl:=gE z n0 ht
   exact (ba (kM rfl) (lB (gB ad) (lB (eg ad rfl) (lB (nE (i:=(tl z n0-1)) (sz:=2) (n:=n0) (F:=F) underlying24 (by kernel_rfl) (fun _ _ h=>Rw.arr h.2) ad (by omega) rfl) (lB (cU (sz:=2) (F:=F (tl z n0-1)) ad (fun w w1 v g h=>hK (tl z n0-1) w w1 v g h) (fun w v h=>aF.is (hF (tl z n0-1) w v h)) rfl) (lB (mf (hF (tl z n0-1)) nI rfl rfl) (lB (cB (op:=.eql) ad (cj (decide_eq_false (fun h=>hl (yX h))) (by simp))) aD))))))))
   (fun q hq w v h=>by
    simp only [yV,List.mem_cons,List.not_mem_nil,or_false] at hq
    rcases hq with rfl
    ·exact (fun h=>h.trans (congrArg (Value.int .i64) (by have:=bi z n0;omega))) h)) (lB (yS (m:=(tl z n0)) (n:=n0) (F:=F) underlying24 ad ad (by first | omega | exact bi _ _) rfl) aD)))
  (aM [.fact 0 (.one (.s))] ⟨fun _ _ h=>Rw.is (sz:=2) (F:=F) (n:=n0) h.2,trivial⟩) aV
section
variable {Φ:PH}{p x:Nat}
theorem JO  (hp:∀w v,Φ p w v->iF s0 c0 2 F n w v) (hF:∀i w v,F i w v->aF w v (z i) k) (hK:∀i w w1 v,Kp w w1->F i w v->F i w1 v) (hx:Φ x=iF s0 c0 2 F (tl z n)) (hn:n<=1000000) (hk:k<=500000):aj Φ prog ⟨105,[.fact p],[oS x],false⟩:=by
 rcases Nat.eq_zero_or_pos (tl z n) with h | h
 ·exact aT (JI hF hK hn hk h) ⟨hp,trivial⟩ ⟨⟨rfl,⟨rfl,rfl,fun _ _ h=>hx▸h⟩,trivial⟩,trivial⟩
 ·exact aT (JN hF hK hn hk h) ⟨hp,trivial⟩ ⟨⟨rfl,⟨rfl,rfl,fun _ _ h=>hx▸h⟩,trivial⟩,trivial⟩
theorem JP {j:Nat} (hp:∀w v,Φ p w v->aC 2 27 F n w v) (hF:∀i w v,F i w v->aF w v (z i) k) (hK:∀i w w1 v,Kp w w1->F i w v->F i w1 v) (hx:Φ x=aC 2 27 F (tl z n)) (hn:n<=1000000:=by omega) (hk:k<=500000:=by omega):aj Φ prog ⟨105,[.fact p],[oS x],.nF [] j 0⟩:=fun X L w vs hX hL hLX ha hb=>by
 match vs,ha with
 | [v],ha=>
  have h1:=hp _ _ (ha.1 w (Off.refl _ _))
  obtain ⟨s0,c0,rfl,hc,he⟩:=h1.rw
  refine (JO (Φ:=ph [iF s0 c0 2 F n,iF s0 c0 2 F (tl z n)]) (p:=0) (x:=1) (s0:=s0) (c0:=c0) ad hF hK rfl hn hk X w [.slice s0 n c0] hX ⟨fun w1 hw=>⟨rfl,(hp _ _ (ha.1 w1 hw)).rw⟩,trivial⟩).mono fun e w' ⟨hg,us,he,ho⟩=>?_
  match us,ho with
  | [u],ho=>
   have hu:=ho.1.2 _ (List.mem_singleton.2 rfl) w' (Off.refl _ _)
   obtain ⟨rfl,-⟩:u = .slice s0 (tl z n) c0∧_:=hu
   refine ⟨hg,_,he,cP ⟨⟨_,_,_,rfl⟩,fun _ h=>by cases h⟩ hx fun w1 hw=>(hp _ _ (ha.1 w1 ((Off.grown hg).trans hw fun _ _ h=>h))).take (bi z n),fun g hg'=>?_⟩
   have hg2:blk (.slice s0 n c0)=some g:=by
    revert hg'
    cases s0 <;> exact fun h=>h
   have h3:=hb _ g rfl hg2
   exact ⟨Nat.lt_of_lt_of_le (hL g h3) hg.size,.inl h3⟩
end
def tj (z:Nat->Int) (n k:Nat):List WP:=[Rw 2 (If z k) n,Nz n,aC 2 27 (Nf (upto 0 z) k) n,Nz n,aC 2 27 (Nf (upto n z) k) n,aC 2 27 (Nf (upto n z) k) (tl (upto n z) n)]
def JQ (z:Nat->Int) (n k:Nat) (j:Nat):List WP:=[Nz j,aC 2 27 (Nf (upto j z) k) n,fun _ _=>True,Ptr 2 (Iw (z j) k),Iw (z j) k,Nw (z j) k,At 2,Ptr 2 (Nw ((upto j z) j) k),fun w v=>aC 2 27 (fun ι w v=>ak w v ((upto (j+1) z) ι) k) n w v,Nz (j+1)]
def yY:bJ:=⟨[0,1,4,8,9,10,11,12],[(.slot 13,.i),(.slot 5,.s)],[(.one 0,6),(.one 1,.cD [1] 7),(.one 1,.lo 1)],[.closed (.one (.ci .i64 0)),.frm 2,.frm 0],6,[(7,4)]⟩
def yZ:List Step:=[bQ [6,3] oT (au .lss),bQ [0,6] [oP 9] (aN 24),bQ [9] [oI 10] (aO 27),.base ⟨78,[10],[oI 11],false⟩,.base ⟨0,[7,6],[oP 13],.joint [1] 12 (aN 24)⟩,.base ⟨0,[7,6,.any,11],[oS 14],.put [] 1 0 12 (fB 27 (.tmp 18) (.tmp 19))⟩,bQ [6,.lit (.ci .i64 1)] [oN 15] (au .add)]
def JR:List Step:=[bQ [6,3] oF (au .lss)]
def JS:List Step:=[bQ [0] [oN 1] (aK 24),.base ⟨0,[1,1],[oS 2],.loose [] 1 0 (fK 24)⟩,bQ [0] [oN 3] (aK 24),.loop yY [(yZ,[.frm 15,.frm 14,.frm 0])] JR,.base ⟨105,[4],[oS 5],.nF [] 1 0⟩]
def JT:List Out:=[oS 0,⟨.one (.lit (.fn 78)),[]⟩]
theorem JU  (hn:n<=1000000) (hk:k<=500000):eY (ph (tj z n k)) prog ⟨133,[0,.lit (.fn 78)],[oS 5],false⟩:=jf JT [oS 5] JS func133 (by kernel_rfl) (lB (aS (F:=(If z k)) underlying24 ad rfl) (lB (kN (n:=n) (F:=(Nf (upto 0 z) k)) ad (fun i w=>ak.zero w k) rfl) (lB (aS (F:=(If z k)) underlying24 ad rfl) (cm (counted n (fun j=>ph (tj z n k ++ JQ z n k j)) (fun _=>0) (fun j p hp=>cn (show p<(tj z n k).length from hp)) ⟨fun _=>rfl,ad,bS,trivial⟩ (fun j hj=>by
   skip
   exact ⟨(yZ,[.frm 15,.frm 14,.frm 0]),rfl,⟨ad,ad,bS,trivial⟩,(lB (bH ad ad) (lB (co (i:=j) (F:=(If z k)) underlying24 ad ad rfl) (lB (cU (sz:=2) (F:=Iw (z j) k) ad (fun _ _ _ g h=>aF.kp h g) (fun _ _ h=>aF.is h) rfl) (lB (pX iI rfl rfl) (lB (fL (i:=j) (sz:=2) (n:=n) (F:=(Nf (upto j z) k)) underlying24 (fun _ _ h=>aC.arr h) ad rfl rfl) (lB (iz (i:=j) (n:=n) (F:=(fun ι w v=>ak w v ((upto j z) ι) k)) (F':=(fun ι w v=>ak w v ((upto (j+1) z) ι) k)) (G:=Nw (z j) k) (.tmp 18) (.tmp 19) ad ad ad rfl (fun _ _ h=>ak.cells h) (fun _ _ _ _ g h=>ak.kp h g) (fun _ _ _ g h=>ak.kp h g) (fun i w v hi h=>by rw [mg hi];exact h) (fun w v h=>h.eq (mh j z).symm) rfl) (lB (ct ad rfl) aD)))))))⟩) (lB (tlF ad ad) aD)
   (fun q hq w v h=>by
    simp only [yY,List.mem_cons,List.not_mem_nil,or_false] at hq
    rcases hq with rfl
    ·exact (fun h=>h) h)) (lB (JP (z:=(upto n z)) (n:=n) (k:=k) (F:=(Nf (upto n z) k)) ad (fun _ _ _ h=>ak.i h) (fun _ _ _ _ g h=>ak.kp h g) rfl) aD)))))
  (aM [.fact 0 (.one (.s)),.lit (.fn 78)] ⟨Rw.Is 2 (If z k) n,(fun _ h=>by cases h),trivial⟩) aV
section
variable {Φ:PH}{p q x l:Nat}{J:List Nat}{j:Nat}{L:List Int}
theorem JV {Z:Nat->Int}{v:Value} (h:aC 2 27 (Nf (upto n Z) k) (tl (upto n Z) n) w v):aC 2 27 (Nf (ae (an (mk n Z))) k) (an (mk n Z)).length w v:=by
 rw [eQ,<- show tl (upto n Z) n=tl Z n from pZ fun i hi=>gi (h:=hi)]
 exact h.to fun i w v hi h=>h.eq (by
  have:=bi (upto n Z) n
  rw [fM,cM,if_pos (by omega),gi])
theorem JW (hp:∀w v,Φ p w v->Rw 2 (If z k) n w v) (hx:Φ x=aC 2 27 (Nf (ae L) k) L.length) (hL:an (mk n z)=L) (hn:n<=1000000:=by omega) (hk:k<=500000:=by omega):aj Φ prog ⟨133,[.fact p,.lit (.fn 78)],[oS x],.eN J j⟩:=
 jD (JU hn hk) ⟨hp,rfl,trivial⟩ ⟨⟨rfl,⟨rfl,rfl,fun _ _ h=>hx▸hL▸JV h⟩,trivial⟩,trivial⟩
end
def JX (z:Nat->Int) (n k:Nat):List WP:=[Rw 2 (If z k) n,aC 2 27 (Nf (ae (an (mk n z))) k) ((an (mk n z)).length)]
def JY:List Step:=[.base ⟨133,[0,.lit (.fn 78)],[oS 1],.eN [] 1⟩]
def JZ:List Out:=[oS 0]
theorem Ka  (hn:n<=1000000) (hk:k<=500000):eY (ph (JX z n k)) prog ⟨103,[0],[oS 1],false⟩:=jf JZ [oS 1] JY func103 (by kernel_rfl) (lB (JW (Rw.To 2 (If z k) n (fun _ _ _ _ h=>h)) rfl rfl) aD)
  (aM [.fact 0 (.one (.s))] ⟨Rw.Is 2 (If z k) n,trivial⟩) aV
section
variable {Φ:PH}{p q x l:Nat}{J:List Nat}{j:Nat}{L:List Int}
theorem Il (hp:∀w v,Φ p w v->Rw 2 (If z k) n w v) (hx:Φ x=aC 2 27 (Nf (ae L) k) L.length) (hL:an (mk n z)=L) (hn:n<=1000000:=by omega) (hk:k<=500000:=by omega):aj Φ prog ⟨103,[.fact p],[oS x],.eN J j⟩:=
 jD (Ka hn hk) ⟨hp,trivial⟩ ⟨⟨rfl,⟨rfl,rfl,fun _ _ h=>hx▸hL▸h⟩,trivial⟩,trivial⟩
end
section
variable {Φ:PH}{p q x l:Nat}{J:List Nat}{j:Nat}{L:List Int}
end
end Go.Proofs.YtbjfgffibepmkaaGreat.Sym
