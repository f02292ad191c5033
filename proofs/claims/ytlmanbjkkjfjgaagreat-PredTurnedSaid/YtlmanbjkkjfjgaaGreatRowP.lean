/- poly.Lead, and what poly -/
import Derived.Test.YtlmanbjkkjfjgaaGreatPolH
set_option maxRecDepth 100000
namespace Go.Proofs.YtlmanbjkkjfjgaaGreat.Sym
open Go.Proofs.Tryz
open Go.RowKit
variable {z:Nat->Int}{c0 k m n n0 sz:Nat}{P:Program}{F Φ:PH}{f:FuncId}{ar:List Arg}{outs:List Out}{md:Mode}{T e:TypeId}{w w1:World}{v:Value}{X:Nat->Prop}{s0:Option Addr}
def qr (z:Nat->Int) (n:Nat):Int:=if tl z n=0 then 0 else z (tl z n-1)
structure aiz (S:Nat->Nat->Int) (u:Int) (n:Nat):Prop where
 low:∀j i,j<n->i<j->S (j+1) i=S j i
 top:∀j,j<n->S (j+1) (n-1)=S j (n-1)
 step:∀j i,j<=i->i+1<n->S (j+1) i=S j i+S (j+1) (i+1)*u
section
variable {S:Nat->Nat->Int}{u:Int}{j i a:Nat}
end
section
variable {p q x:Nat}{t:Int}
end
def hsum (c:Nat->Int) (u:Int):Nat->Nat->Int
 | 0,_=>0
 | r+1,i=>c i+hsum c u r (i+1)*u
def shS (c:Nat->Int) (u:Int) (m:Nat):Nat->Nat->Int
 | 0,i=>c i
 | j+1,i=>if i<j then shS c u m j i else hsum (shS c u m j) u (m-i) i
def ou (z:Nat->Int) (n:Nat) (d:Int) (i:Nat):Int:=z i*d ^ (tl z n-1-i)
def mvS (z:Nat->Int) (n:Nat) (u d:Int):Nat->Nat->Int:=shS (ou z n d) u (tl z n)
def mvL (z:Nat->Int) (n:Nat) (u d:Int):List Int:=mk (tl z n) λi=>mvS z n u d (tl z n) i*d ^ i
theorem sv (z:Nat->Int) (n:Nat) (u d:Int):(mvL z n u d).length=tl z n:=dc _ _
theorem wk {u d:Int}{i:Nat} (h:i<tl z n):ae (mvL z n u d) i=mvS z n u d (tl z n) i*d ^ i:=by rw [mvL,cU,if_pos h]
theorem jF {Ψ:PH}{rm:List Arg}{rn:List Out}{md':Mode} (h:eT Ψ P ⟨f,rm,rn,md'⟩) (ha:fr Φ Ψ ar rm) (ho:nF Ψ Φ rn outs):eT Φ P ⟨f,ar,outs,md⟩:=
 λX w vs hX h'=>(h X w vs hX (ha.ok h')).mono λ_ _ ⟨hg,u,he,h2,h3⟩=>⟨hg,u,he,ho.ok h2,h3⟩
theorem eT.call  (h:eT Φ P ⟨f,ar,outs,md⟩):aj Φ P ⟨f,ar,outs,false⟩:=
 λX w vs hX h'=>(h X w vs hX h').mono λ_ _ ⟨hg,u,he,h2,_⟩=>⟨hg,[u],he,h2⟩
theorem aA.off  (hF:∀i w w1 v,Kp w w1->F i w v->F i w1 v) (h:aA sz e F n w v) (ho:Off X w w1) (hb:∀g,blk v=some g->¬X g):aA sz e F n w1 v:=by obtain ⟨rows,r1,r2,r3,r4⟩:=h;refine ⟨rows,r1,r2,r3.keep λg hg=>ho.2 g (r3.lt g hg) (hb g (by rw [fp];exact hg)),λi r hr=>hF _ _ _ _ ho.1 (r4 i r hr)⟩
section
variable {p q r x ku kd kp K:Nat}{u d:Int}
end
section
variable {p q r x ku kd kp K1 K2 K3:Nat}{u d:Int}
end
def fQ (s:Option Addr) (c sz:Nat) (F:PH) (n:Nat) (w:World) (v:Value):Prop:=v = .slice s n c∧Rw sz F n w v
theorem Qf :∀{rows:List (List Value)},(∀r,r ∈ rows->r.length=sz)->m<=rows.length->rows.flatten.take (m*sz)=(rows.take m).flatten:=λ{rows} h hm=>by
 have e1:rows.flatten=(rows.take m).flatten ++ (rows.drop m).flatten:=by rw [<- List.flatten_append,List.take_append_drop]
 have e2:(rows.take m).flatten.length=m*sz:=by rw [kA (sz:=sz) (λr hr=>h r (List.mem_of_mem_take hr)),List.length_take,Nat.min_eq_left hm]
 rw [e1,<- e2,List.take_left]
theorem aA.take {c:Nat}{s:Option Addr} (h:aA sz e F n w (.slice s n c)) (hm:m<=n):aA sz e F m w (.slice s m c):=by
 obtain ⟨rows,hl,hs,ho,hF⟩:=h;refine ⟨rows.take m,by rw [List.length_take];omega,λr hr=>hs r (List.mem_of_mem_take hr),⟨⟨by rw [kA (sz:=sz) (λr hr=>hs r (List.mem_of_mem_take hr)),List.length_take,Nat.min_eq_left (by omega)],?_⟩,λg cur e' p hg hh x hx=>ho.2 g cur e' p ?_ hh x hx⟩,λi r hr=>hF i r ?_⟩
 ·rcases ho.1.2 with ⟨h1,h2⟩ | ⟨g,cap,cur,h1,hb,hh,h3,h4,h5,h6⟩
  ·simp only [Value.slice.injEq] at h1;obtain ⟨rfl,rfl,rfl⟩:=h1;exact .inl ⟨by rw [show m=0 by omega],by omega⟩
  ·simp only [Value.slice.injEq] at h1;obtain ⟨rfl,-,rfl⟩:=h1;refine .inr ⟨g,c,cur,rfl,hb,hh,by omega,h4,h5,?_⟩;rw [<- Qf hs (by omega),<- h6,List.take_take,Nat.min_eq_left (Nat.mul_le_mul_right _ hm)]
 ·simp only [Value.ownBlock] at hg ⊢;cases s <;> exact hg
 ·rw [List.getElem?_take] at hr;split at hr
  ·exact hr
  ·cases hr
section
variable {p q x:Nat}{a b:Int}
theorem sG  (hT:P.underlying T=some (.slice e)) (hp:Im Φ p (fQ s0 c0 sz F n)) (hq:Im Φ q (Ni (m:Int))) (hm':m<=n) (hx:Φ x=fQ s0 c0 sz F m) (hz:dU P e=some sz:=by kernel_rfl):aj Φ P ⟨0,[.fact p,.fact q],[oS x],.quiet (eL T)⟩:=λX w ac o xs _ hm ha=>by
 unfold eL at hm;split at hm
 case h_2=>cases hm
 rename_i t y z ho;split at hm
 case isFalse=>cases hm
 rename_i ht;subst ht;simp only [Option.some.injEq] at hm;subst hm;obtain ⟨hv,s,c,hv',hc,he⟩:=hp _ _ (ha.1 w (Off.refl _ _));rw [hv] at hv';simp only [Value.slice.injEq,true_and] at hv';obtain ⟨rfl,rfl⟩:=hv';have hi2:=hq _ _ (ha.2.1 w (Off.refl _ _));refine ⟨.slice s0 m c0,w,?_,bH w none,cP ⟨⟨_,_,_,rfl⟩,λ_ h=>by cases h⟩ hx λw1 hw=>⟨rfl,?_⟩⟩
 ·unfold execOp;have h0:(0:Int)<=(m:Int):=Int.natCast_nonneg m;have h1:(m:Int)<=(c0:Int):=by omega
  have ha0:(s0.map λy=>y.add 0)=s0:=by cases s0 <;> simp [Addr.add_zero']
  simp only [ho,Option.map_none,Option.map_some,hv,hi2];simp [Instr.sliceAt,Instr.slice,run_underlying hT,Instr.sliceBounds,run_sliceBound (P:=P) w .i64 (m:Int) c0 .sliceAcap h0 h1,run_sizeOf hz,ha0]
 ·obtain ⟨hv1,s',c',hv',hc',he'⟩:=hp _ _ (ha.1 w1 hw);rw [hv1] at hv';simp only [Value.slice.injEq,true_and] at hv';obtain ⟨rfl,rfl⟩:=hv';exact ⟨s0,c0,rfl,by omega,λi _=>he' i (by omega)⟩
theorem sJ {c:Int} (hp:Im Φ p (Ni a)) (hq:Im Φ q (Ni b)) (hx:Φ x=Ni c) (hc:a-b=c:=by omega) (h1:-9223372036854775808<=c:=by omega) (h2:c<=9223372036854775807:=by omega):aj Φ P ⟨0,[.fact p,.fact q],[oN x],.quiet (am .sub)⟩:=λX w ac o xs _ hm ha=>by obtain ⟨t,y,z,yt,ho,rfl⟩:=oA hm;refine ⟨.int .i64 c,w,?_,bH w none,cP (cY c) hx λ_ _=>rfl⟩;refine mZ ho (hp _ _ (ha.1 w (Off.refl _ _))) (hq _ _ (ha.2.1 w (Off.refl _ _))) ?_;subst hc;simp [binOp,Op.intArith,IntWalk.i64_in _ ⟨h1,h2⟩]
end
def wK (F:PH) (z:Nat->Int) (n0 c0:Nat) (s0:Option Addr):List WP:=[fQ s0 c0 2 F n0,Nz n0,Ni ((tl z n0:Nat):Int),fQ s0 c0 2 F (tl z n0)]
def Qg (F:PH) (z:Nat->Int) (n0:Nat) (j:Nat):List WP:=[Nz (n0-j),Nz (n0-(j+1)),Ptr 2 (F (n0-(j+1))),F (n0-(j+1)),Nw 0 0,Ni (cK (z (n0-(j+1))) (0:Int)),Nz (n0-(j+1))]
def CQ:bp:=⟨[0,2,4,5],[(.slot 3,.i)],[(.one 0,4)],[.frm 1],4,[(4,2)]⟩
def CR:List Step:=[.derive (.agg [.cb false,.nl]) (.agg [.lit (.cb false),.lit (.nl)]) [] 8,bQ [4,.lit (Ai 0)] oT (am .gtr),bQ [4,.lit (Ai 1)] [oN 5] (am .sub),bQ [0,5] [oP 6] (adK 25),bQ [6] [oI 7] (aQ 28),
   cB 113 [7,8] [oN 9],bQ [9,.lit (Ai 0)] oT (am .eql),bQ [4,.lit (Ai 1)] [oN 10] (am .sub)]
def Qh:List Step:=[bQ [4,.lit (Ai 0)] oF (am .gtr)]
def Qi:List Step:=[bQ [0] [oN 1] (aC 25),.loop CQ [(CR,[.frm 10])] Qh,bQ [0,2] [oS 3] (eL 25)]
def Qj:List Out:=[oS 0]
theorem Qk  (hF:∀i w v,F i w v->aD w v (z i) k) (hK:∀i w w1 v,Kp w w1->F i w v->F i w1 v) (hn:n0<=1000000) (hk:k<=500000) (ht:tl z n0=0):aj (ph (wK F z n0 c0 s0)) prog ⟨69,[0],[oS 3],false⟩:=by
 have hle:=bg z n0;exact adL Qj [oS 3] Qi func69 (by kernel_rfl) (lB (lF (sz:=2) (n:=n0) (F:=F) underlying25 (λ_ _ h=>Rw.arr h.2) rfl) (bN (counted (n0-tl z n0) (λj=>ph (wK F z n0 c0 s0 ++ Qg F z n0 j)) (λ_=>0) (λ_ p hp=>bO (show p<(wK F z n0 c0 s0).length from hp)) ⟨ad,trivial⟩ (λj _=>by
   have h0:z (n0-(j+1))=0:=gH z n0 _ (by omega) (by omega);exact ⟨(CR,[.frm 10]),rfl,⟨ad,trivial⟩,(bk (mK rfl) (lB (gG ad) (lB (cO ad rfl) (lB (lG (i:=(n0-(j+1))) (sz:=2) (n:=n0) (F:=F) underlying25 (by kernel_rfl) (λ_ _ h=>Rw.arr h.2) ad (by omega) rfl) (lB (bT (sz:=2) (F:=F (n0-(j+1))) ad (λw w1 v g h=>hK (n0-(j+1)) w w1 v g h) (λw v h=>aD.is (hF (n0-(j+1)) w v h)) rfl) (lB (na (hF (n0-(j+1))) nI rfl rfl) (lB (cn (op:=.eql) ad (bz (decide_eq_true (by rw [h0];rfl)) (by simp))) (lB (cO ad rfl) au))))))))⟩)
   (by
   have hle:=bg z n0;exact (lB (lu ad) au))
   (poC (λ_ _ h=>(λh=>h.trans (congrArg (Value.int .i64) (by have:=bg z n0;omega))) h) poN)) (lB (sG (m:=(tl z n0)) (n:=n0) (F:=F) underlying25 ad ad (by first | omega | exact bg _ _) rfl) au)))
  (aP [.fact 0 (.one (.s))] ⟨λ_ _ h=>Rw.is (sz:=2) (F:=F) (n:=n0) h.2,trivial⟩) aV
def wL (F:PH) (z:Nat->Int) (n0 c0:Nat) (s0:Option Addr):List WP:=[fQ s0 c0 2 F n0,Nz n0,Ni ((tl z n0:Nat):Int),fQ s0 c0 2 F (tl z n0)]
def Ql (F:PH) (z:Nat->Int) (n0:Nat) (j:Nat):List WP:=[Nz (n0-j),Nz (n0-(j+1)),Ptr 2 (F (n0-(j+1))),F (n0-(j+1)),Nw 0 0,Ni (cK (z (n0-(j+1))) (0:Int)),Nz (n0-(j+1)),Nz (tl z n0-1),Ptr 2 (F (tl z n0-1)),F (tl z n0-1),Nw 0 0,Ni (cK (z (tl z n0-1)) (0:Int))]
def CS:bp:=⟨[0,2,4,5],[(.slot 3,.i)],[(.one 0,4)],[.frm 1],4,[(4,2)]⟩
def CT:List Step:=[.derive (.agg [.cb false,.nl]) (.agg [.lit (.cb false),.lit (.nl)]) [] 8,bQ [4,.lit (Ai 0)] oT (am .gtr),bQ [4,.lit (Ai 1)] [oN 5] (am .sub),bQ [0,5] [oP 6] (adK 25),bQ [6] [oI 7] (aQ 28),
   cB 113 [7,8] [oN 9],bQ [9,.lit (Ai 0)] oT (am .eql),bQ [4,.lit (Ai 1)] [oN 10] (am .sub)]
def Qm:List Step:=[.derive (.agg [.cb false,.nl]) (.agg [.lit (.cb false),.lit (.nl)]) [] 14,bQ [4,.lit (Ai 0)] oT (am .gtr),bQ [4,.lit (Ai 1)] [oN 11] (am .sub),bQ [0,11] [oP 12] (adK 25),bQ [12] [oI 13] (aQ 28),
   cB 113 [13,14] [oN 15],bQ [15,.lit (Ai 0)] oF (am .eql)]
def Qn:List Step:=[bQ [0] [oN 1] (aC 25),.loop CS [(CT,[.frm 10])] Qm,bQ [0,2] [oS 3] (eL 25)]
def Qo:List Out:=[oS 0]
theorem Qp  (hF:∀i w v,F i w v->aD w v (z i) k) (hK:∀i w w1 v,Kp w w1->F i w v->F i w1 v) (hn:n0<=1000000) (hk:k<=500000) (ht:0<tl z n0):aj (ph (wL F z n0 c0 s0)) prog ⟨69,[0],[oS 3],false⟩:=by
 have hle:=bg z n0;exact adL Qo [oS 3] Qn func69 (by kernel_rfl) (lB (lF (sz:=2) (n:=n0) (F:=F) underlying25 (λ_ _ h=>Rw.arr h.2) rfl) (bN (counted (n0-tl z n0) (λj=>ph (wL F z n0 c0 s0 ++ Ql F z n0 j)) (λ_=>0) (λ_ p hp=>bO (show p<(wL F z n0 c0 s0).length from hp)) ⟨ad,trivial⟩ (λj _=>by
   have h0:z (n0-(j+1))=0:=gH z n0 _ (by omega) (by omega);exact ⟨(CT,[.frm 10]),rfl,⟨ad,trivial⟩,(bk (mK rfl) (lB (gG ad) (lB (cO ad rfl) (lB (lG (i:=(n0-(j+1))) (sz:=2) (n:=n0) (F:=F) underlying25 (by kernel_rfl) (λ_ _ h=>Rw.arr h.2) ad (by omega) rfl) (lB (bT (sz:=2) (F:=F (n0-(j+1))) ad (λw w1 v g h=>hK (n0-(j+1)) w w1 v g h) (λw v h=>aD.is (hF (n0-(j+1)) w v h)) rfl) (lB (na (hF (n0-(j+1))) nI rfl rfl) (lB (cn (op:=.eql) ad (bz (decide_eq_true (by rw [h0];rfl)) (by simp))) (lB (cO ad rfl) au))))))))⟩)
   (by
   have hle:=bg z n0;have hl:=fG z n0 ht;exact (bk (mK rfl) (lB (gG ad) (lB (cO ad rfl) (lB (lG (i:=(tl z n0-1)) (sz:=2) (n:=n0) (F:=F) underlying25 (by kernel_rfl) (λ_ _ h=>Rw.arr h.2) ad (by omega) rfl) (lB (bT (sz:=2) (F:=F (tl z n0-1)) ad (λw w1 v g h=>hK (tl z n0-1) w w1 v g h) (λw v h=>aD.is (hF (tl z n0-1) w v h)) rfl) (lB (na (hF (tl z n0-1)) nI rfl rfl) (lB (cn (op:=.eql) ad (bz (decide_eq_false (λh=>hl (CU h))) (by simp))) au))))))))
   (poC (λ_ _ h=>(λh=>h.trans (congrArg (Value.int .i64) (by have:=bg z n0;omega))) h) poN)) (lB (sG (m:=(tl z n0)) (n:=n0) (F:=F) underlying25 ad ad (by first | omega | exact bg _ _) rfl) au)))
  (aP [.fact 0 (.one (.s))] ⟨λ_ _ h=>Rw.is (sz:=2) (F:=F) (n:=n0) h.2,trivial⟩) aV
section
variable {p x:Nat}
theorem Qq  (hp:Im Φ p (fQ s0 c0 2 F n)) (hF:∀i w v,F i w v->aD w v (z i) k) (hK:∀i w w1 v,Kp w w1->F i w v->F i w1 v) (hx:Φ x=fQ s0 c0 2 F (tl z n)) (hn:n<=1000000) (hk:k<=500000):aj Φ prog ⟨69,[.fact p],[oS x],false⟩:=by
 rcases Nat.eq_zero_or_pos (tl z n) with h | h
 ·exact aU (Qk hF hK hn hk h) ⟨hp,trivial⟩ ⟨⟨rfl,⟨rfl,rfl,λ_ _ h=>hx▸h⟩,trivial⟩,trivial⟩
 ·exact aU (Qp hF hK hn hk h) ⟨hp,trivial⟩ ⟨⟨rfl,⟨rfl,rfl,λ_ _ h=>hx▸h⟩,trivial⟩,trivial⟩
theorem Qr {j:Nat} (hp:Im Φ p (aA 2 28 F n)) (hF:∀i w v,F i w v->aD w v (z i) k) (hK:∀i w w1 v,Kp w w1->F i w v->F i w1 v) (hx:Φ x=aA 2 28 F (tl z n)) (hn:n<=1000000:=by omega) (hk:k<=500000:=by omega):aj Φ prog ⟨69,[.fact p],[oS x],.mT [] j 0⟩:=λX L w vs hX hL hLX ha hb=>by
 match vs,ha with
 | [v],ha=>
  have h1:=hp _ _ (ha.1 w (Off.refl _ _));obtain ⟨s0,c0,rfl,hc,he⟩:=h1.rw;refine (Qq (Φ:=ph [fQ s0 c0 2 F n,fQ s0 c0 2 F (tl z n)]) (p:=0) (x:=1) (s0:=s0) (c0:=c0) ad hF hK rfl hn hk X w [.slice s0 n c0] hX ⟨λw1 hw=>⟨rfl,(hp _ _ (ha.1 w1 hw)).rw⟩,trivial⟩).mono λe w' ⟨hg,us,he,ho⟩=>?_
  match us,ho with
  | [u],ho=>
   have hu:=ho.1.2 _ (List.mem_singleton.2 rfl) w' (Off.refl _ _);obtain ⟨rfl,-⟩:u = .slice s0 (tl z n) c0∧_:=hu;refine ⟨hg,_,he,cP ⟨⟨_,_,_,rfl⟩,λ_ h=>by cases h⟩ hx λw1 hw=>(hp _ _ (ha.1 w1 ((Off.grown hg).trans hw λ_ _ h=>h))).take (bg z n),λg hg'=>?_⟩;have hg2:blk (.slice s0 n c0)=some g:=by
    revert hg'
    cases s0 <;> exact λh=>h
   have h3:=hb _ g rfl hg2;exact ⟨Nat.lt_of_lt_of_le (hL g h3) hg.size,.inl h3⟩
end
def wN (z:Nat->Int) (n k:Nat):List WP:=[Rw 2 (If z k) n,Nz n,aA 2 28 (Nf (upto 0 z) k) n,Nz n,aA 2 28 (Nf (upto n z) k) n,aA 2 28 (Nf (upto n z) k) (tl (upto n z) n)]
def Qs (z:Nat->Int) (n k:Nat) (j:Nat):List WP:=[Nz j,aA 2 28 (Nf (upto j z) k) n,λ_ _=>True,Ptr 2 (Iw (z j) k),Iw (z j) k,Nw (z j) k,At 2,Ptr 2 (Nw ((upto j z) j) k),aA 2 28 (Nf (upto (j+1) z) k) n,Nz (j+1)]
def CV:bp:=⟨[0,1,4,8,9,10,11,12],[(.slot 13,.i),(.slot 5,.s)],[(.one 0,6),(.one 1,.cM [1] 7),(.one 1,.lo 1)],[.closed (.one (Ai 0)),.frm 2,.frm 0],6,[(7,4)]⟩
def CW:List Step:=[bQ [6,3] oT (am .lss),bQ [0,6] [oP 9] (adK 25),bQ [9] [oI 10] (aQ 28),
   cB 63 [10] [oI 11],.base ⟨0,[7,6],[oP 13],.joint [1] 12 (adK 25)⟩,.base ⟨0,[7,6,.any,11],[oS 14],.put [] 1 0 12 (fE 28 (.tmp 18) (.tmp 19))⟩,bQ [6,.lit (Ai 1)] [oN 15] (am .add)]
def Qt:List Step:=[bQ [6,3] oF (am .lss)]
def Qu:List Step:=[bQ [0] [oN 1] (aC 25),.base ⟨0,[1,1],[oS 2],.loose [] 1 0 (ga 25)⟩,bQ [0] [oN 3] (aC 25),.loop CV [(CW,[.frm 15,.frm 14,.frm 0])] Qt,.base ⟨69,[4],[oS 5],.mT [] 1 0⟩]
def Qv:List Out:=[oS 0,⟨.one (.lit (.fn 63)),[]⟩]
theorem Qw  (hn:n<=1000000) (hk:k<=500000):eT (ph (wN z n k)) prog ⟨111,[0,.lit (.fn 63)],[oS 5],false⟩:=iJ Qv [oS 5] Qu func111 (by kernel_rfl) (lB (aM (F:=(If z k)) underlying25 ad rfl) (lB (mI (n:=n) (F:=(Nf (upto 0 z) k)) ad (λ_ w=>ak.zero w k) rfl) (lB (aM (F:=(If z k)) underlying25 ad rfl) (bN (counted n (λj=>ph (wN z n k ++ Qs z n k j)) (λ_=>0) (λ_ p hp=>bO (show p<(wN z n k).length from hp)) ⟨λ_=>rfl,ad,bI,trivial⟩ (λj _=>by
   skip
   exact ⟨(CW,[.frm 15,.frm 14,.frm 0]),rfl,⟨ad,ad,bI,trivial⟩,(lB (bK ad ad) (lB (bw (i:=j) (F:=(If z k)) underlying25 ad ad rfl) (lB (bT (sz:=2) (F:=Iw (z j) k) ad (λ_ _ _ g h=>aD.kp h g) (λ_ _ h=>aD.is h) rfl) (lB (oB iI rfl rfl) (lB (fO (i:=j) (sz:=2) (n:=n) (F:=(Nf (upto j z) k)) underlying25 (λ_ _ h=>aA.arr h) ad rfl rfl) (lB (ij (i:=j) (n:=n) (F:=(λι w v=>ak w v ((upto j z) ι) k)) (F':=(λι w v=>ak w v ((upto (j+1) z) ι) k)) (G:=Nw (z j) k) (.tmp 18) (.tmp 19) ad ad ad rfl (λ_ _ h=>ak.cells h) (λ_ _ _ _ g h=>ak.kp h g) (λ_ _ _ g h=>ak.kp h g) (λ_ _ _ hi h=>by rw [oh hi];exact h) (λ_ _ h=>h.eq (ol j z).symm) rfl) (lB (ch ad rfl) au)))))))⟩) (lB (tlF ad ad) au)
   (poC (λ_ _ h=>(λh=>h) h) poN)) (lB (Qr (z:=(upto n z)) (n:=n) (k:=k) (F:=(Nf (upto n z) k)) ad (λ_ _ _ h=>ak.i h) (λ_ _ _ _ g h=>ak.kp h g) rfl) au)))))
  (aP [.fact 0 (.one (.s)),.lit (.fn 63)] ⟨Rw.Is 2 (If z k) n,(λ_ h=>by cases h),trivial⟩) aV
section
variable {p q x l:Nat}{J:List Nat}{j:Nat}{L:List Int}
theorem Qx {Z:Nat->Int} (h:aA 2 28 (Nf (upto n Z) k) (tl (upto n Z) n) w v):aA 2 28 (Nf (ae (aw (mk n Z))) k) (aw (mk n Z)).length w v:=by
 rw [fF,<- show tl (upto n Z) n=tl Z n from sN λ_ hi=>gm (h:=hi)];exact h.to λ_ _ _ _ h=>h.eq (by
  have:=bg (upto n Z) n;rw [ig,cU,if_pos (by omega),gm])
theorem Qy (hp:Im Φ p (Rw 2 (If z k) n)) (hx:Φ x=aA 2 28 (Nf (ae L) k) L.length) (hL:aw (mk n z)=L) (hn:n<=1000000:=by omega) (hk:k<=500000:=by omega):aj Φ prog ⟨111,[.fact p,.lit (.fn 63)],[oS x],.eM J j⟩:=
 jF (Qw hn hk) ⟨hp,rfl,trivial⟩ ⟨⟨rfl,⟨rfl,rfl,λ_ _ h=>hx▸hL▸Qx h⟩,trivial⟩,trivial⟩
end
def Qz (z:Nat->Int) (n k:Nat):List WP:=[Rw 2 (If z k) n,aA 2 28 (Nf (ae (aw (mk n z))) k) ((aw (mk n z)).length)]
def QA:List Step:=[.base ⟨111,[0,.lit (.fn 63)],[oS 1],.eM [] 1⟩]
def QB:List Out:=[oS 0]
theorem QC  (hn:n<=1000000) (hk:k<=500000):eT (ph (Qz z n k)) prog ⟨67,[0],[oS 1],false⟩:=iJ QB [oS 1] QA func67 (by kernel_rfl) (lB (Qy (Rw.To 2 (If z k) n (λ_ _ _ _ h=>h)) rfl rfl) au)
  (aP [.fact 0 (.one (.s))] ⟨Rw.Is 2 (If z k) n,trivial⟩) aV
section
variable {p q x l:Nat}{J:List Nat}{j:Nat}{L:List Int}
theorem NU (hp:Im Φ p (Rw 2 (If z k) n)) (hx:Φ x=aA 2 28 (Nf (ae L) k) L.length) (hL:aw (mk n z)=L) (hn:n<=1000000:=by omega) (hk:k<=500000:=by omega):aj Φ prog ⟨67,[.fact p],[oS x],.eM J j⟩:=
 jF (QC hn hk) ⟨hp,trivial⟩ ⟨⟨rfl,⟨rfl,rfl,λ_ _ h=>hx▸hL▸h⟩,trivial⟩,trivial⟩
end
section
variable {p q x l:Nat}{J:List Nat}{j:Nat}{L:List Int}
end
def dl (T:TypeId) (n:Nat):Op->Option (List Operand)
 | .buildSlice t l parts=>if t=T∧l=n∧parts.toList.map (·.1)=List.range n then some (.const (.int .i64 0) :: parts.toList.map (·.2)) else none
 | _=>none
theorem AH:∀(vs pre post:List Value),(∀v,v ∈ vs->v.cells = #[v])->post.length=vs.length->Instr.fill (λi=>some (i*1,1)) (pre ++ post).toArray ((List.range' pre.length vs.length).zip vs)=some (pre ++ vs).toArray
 | [],pre,post,_,hl=>by have:post = []:=List.eq_nil_of_length_eq_zero hl;subst this;rfl
 | v :: vs,pre,[],_,hl=>by simp at hl
 | v :: vs,pre,x :: post,hv,hl=>by
  have h1:=hv v (List.mem_cons_self ..);have ih:=AH vs (pre ++ [v]) post (λu hu=>hv u (List.mem_cons_of_mem _ hu)) (by simpa using hl);have e:List.range' pre.length (v :: vs).length=pre.length :: List.range' (pre ++ [v]).length vs.length:=by simp [List.range'_succ]
  rw [e,List.zip_cons_cons,Instr.fill];simp only [h1];have e2:((pre ++ x :: post).toArray).setIfInBounds (pre.length*1+0) v=(pre ++ [v] ++ post).toArray:=by simp [List.set_append_right]
  rw [if_neg (by simp)];have e3:(#[v].zipIdx.foldl (λcs (c,j)=>cs.setIfInBounds (pre.length*1+j) c) (pre ++ x :: post).toArray)=(pre ++ [v] ++ post).toArray:=by rw [<- e2];rfl
  rw [e3,ih];simp
theorem vJ {α β γ:Type} (f:β->γ):∀{l:List (α×β)}{r:List α},l.map (·.1)=r->l.map (λq=>(q.1,f q.2))=r.zip ((l.map (·.2)).map f)
 | [],r,h=>by subst h;rfl
 | (a,b) :: l,r,h=>by subst h;simp only [List.map_cons,List.zip_cons_cons];rw [vJ f (l:=l) rfl]
section
variable {x j:Nat}
theorem vK {X:Nat->Prop}{w:World}:∀{ps:List Nat}{vs:List Value},cX Φ X w (ps.map Arg.fact) vs->vs.length=ps.length∧∀(i p:Nat) (v:Value),ps[i]?=some p->vs[i]?=some v->∀w1,Off X w w1->Φ p w1 v
 | [],[],_=>⟨rfl,λ_ _ _ h=>by simp at h⟩
 | p :: ps,v :: vs,h=>by
  obtain ⟨h1,h2⟩:=vK h.2;refine ⟨by simp [h1],λi q u hq hu=>?_⟩;cases i with
  | zero=>
   simp only [List.getElem?_cons_zero,Option.some.injEq] at hq hu;subst hq hu;exact h.1
  | succ i=>exact h2 i q u (by simpa using hq) (by simpa using hu)
 | [],_ :: _,h=>h.elim
 | _ :: _,[],h=>h.elim
end
theorem vM {F:WP} (A:∀w1,Off X w w1->Ptr 1 F w1 v) (hF:∀w u,F w (.agg #[u])->∃p n c,u = .slice p n c):∃b o u,v = .pointer (some ⟨b,o,none⟩)∧¬X b∧w.cell? ⟨b,o,none⟩=some u:=by
 obtain ⟨b,o,rfl,l,h1,h2,h3⟩:=A w (Off.refl _ _);obtain ⟨u,rfl⟩:∃u,l = [u]:=by
  match l,h1 with
  | [u],_=>exact ⟨u,rfl⟩
 have hc:=h2 0 u rfl;rw [Nat.add_zero] at hc;obtain ⟨p,n,c,rfl⟩:=hF w u h3;refine ⟨b,o,_,rfl,λhX=>?_,hc⟩;have hg:w.grownBy (w.setCells b o [.bool false]) (some b):=jE b _ _ _;have hgr:w.grownBy (w.setCell ⟨b,o,none⟩ (.bool false)) (some b):=hg;have hoff:Off X w (w.setCell ⟨b,o,none⟩ (.bool false)):=by
  refine ⟨⟨hgr.size,λa k n _ ha=>?_⟩,λk hk hn=>hgr.block k hk λe=>?_⟩
  ·rw [World.cell?_setCell_other _ _ _ _ (λe=>by rw [<- e,hc] at ha;cases ha)];exact ha
  ·obtain rfl:k=b:=Option.some.inj e;exact hn hX
 obtain ⟨b',o',e,l',h1',h2',h3'⟩:=A _ hoff;simp only [Value.pointer.injEq,Option.some.injEq,Addr.mk.injEq] at e;obtain ⟨rfl,rfl,_⟩:=e;obtain ⟨u',rfl⟩:∃u,l' = [u]:=by
  match l',h1' with
  | [u],_=>exact ⟨u,rfl⟩
 have hc':=h2' 0 u' rfl;rw [Nat.add_zero,World.cell?_setCell_same _ _ _ hc] at hc';obtain ⟨_,_,_,e⟩:=hF _ u' h3';rw [e] at hc';cases hc'
section
variable {p x:Nat}
theorem iH {G:WP} (hp:∀w v,Φ p w v->Ptr 1 (λw u=>∃s,u = .agg #[s]∧G w s) w v) (hG:∀w s,G w s->∃p n c,s = .slice p n c) (hx:Φ x=G) (hT:gV P T=some false:=by kernel_rfl):aj Φ P ⟨0,[.fact p],[oS x],.quiet (aQ T)⟩:=λX w ac o xs _ hm ha=>by
 unfold aQ at hm;split at hm
 case h_2=>cases hm
 rename_i t y ho;split at hm
 case isFalse=>cases hm
 rename_i ht;subst ht;simp only [Option.some.injEq] at hm;subst hm;have A:∀w1,Off X w w1->Ptr 1 (λw u=>∃s,u = .agg #[s]∧G w s) w1 (ac.eval y):=λw1 hw=>hp _ _ (ha.1 w1 hw);obtain ⟨b,off,u,hv,hX,hc⟩:=vM A (λw u ⟨s,e,hs⟩=>by
  obtain rfl:u=s:=by simpa using e
  exact hG w u hs)
 have key:∀w1,Off X w w1->G w1 u:=λw1 hw=>by
  obtain ⟨b',o',e,l',h1',h2',s,h3',h4⟩:=A w1 hw;rw [hv] at e;simp only [Value.pointer.injEq,Option.some.injEq,Addr.mk.injEq] at e;obtain ⟨rfl,rfl,_⟩:=e;obtain rfl:l' = [s]:=by simpa using h3'
  have hc':=h2' 0 s rfl;rw [Nat.add_zero,World.cell?_of_block (hw.2 b (World.block_lt_of_cell? _ _ hc) hX),hc] at hc';obtain rfl:=Option.some.inj hc';exact h4
 obtain ⟨p',n',c',rfl⟩:=hG _ _ (key w (Off.refl _ _));refine ⟨_,w,?_,bH w none,cP ⟨⟨_,_,_,rfl⟩,λ_ h=>by cases h⟩ hx key⟩;unfold execOp;simp [ho,hv,Instr.loadAt,Instr.sureAddr,loadVar,gW hT,hc]
end
def je (zz:Nat->Nat->Int) (ln:Nat->Nat) (k:Nat) (i:Nat) (w:World) (v:Value):Prop:=∃s,v = .agg #[s]∧Rw 2 (λj w v=>aD w v (zz i j) k) (ln i) w s
section
variable {p p0 p1 p2 x j n1 n2:Nat}{z0 z1 z2:Nat->Int}
theorem AI  (h:Rw 2 (If z k) n w v):v.cells = #[v]:=by obtain ⟨p,c,rfl,_⟩:=h;rfl
theorem dC {a:Int} (hx:Φ x=Ni a) (X:Nat->Prop) (w:World) (v:Value) (h:(Arg.parts (.one (.lit (Ai a))) []).ok Φ X w v):(Arg.fact x).ok Φ X w v:=λ_ _=>by rw [hx];exact h.1.1
end
def oo (sz:Nat) (e:TypeId) (w:World) (v:Value):Prop:=∃g n cap cur,v = .slice (some ⟨g,0,none⟩) n cap∧w.heap[g]?=some (.cells cur e (0,0))∧cap<=maxLen∧cur.size=cap*sz∧∀x,x ∈ cur.toList->dd x
def jf (T:TypeId):Op->Option (List Operand)
 | .call ⟨.builtin .cap,args,ts⟩=>if ts = #[T] then some args.toList else none
 | _=>none
section
variable {p x j:Nat}
theorem kB  (hT:P.underlying T=some (.slice e)):aj Φ P ⟨0,[.lit .nl],[oL (Ai 0)],.quiet (jf T)⟩:=λX w ac o xs _ hm ha=>by
 unfold jf at hm;split at hm
 case h_2=>cases hm
 rename_i args ts ho;split at hm
 case isFalse=>cases hm
 rename_i hts;subst hts;simp only [Option.some.injEq] at hm;subst hm
 match hl:args.toList,ha with
 | [y],ha=>
  have hv:ac.eval y = .slice none 0 0:=ha.1;have hargs:args = #[y]:=by apply Array.ext';simpa using hl
  subst hargs;refine ⟨.int .i64 0,w,?_,bH w none,⟨⟨⟨rfl,λ_ h=>by cases h⟩,λ_ hr=>by cases hr⟩,trivial⟩⟩;unfold execOp;simp [ho,resolve,invoke,builtin,Builtin.cap_,run_underlying hT,hv,goInt]
theorem kC  (hT:P.underlying T=some (.slice e)):aj Φ P ⟨0,[.lit .nl],[oL (Ai 0)],.quiet (aC T)⟩:=λX w ac o xs _ hm ha=>by
 unfold aC at hm;split at hm
 case h_2=>cases hm
 rename_i args ts ho;split at hm
 case isFalse=>cases hm
 rename_i hts;subst hts;simp only [Option.some.injEq] at hm;subst hm
 match hl:args.toList,ha with
 | [y],ha=>
  have hv:ac.eval y = .slice none 0 0:=ha.1;have hargs:args = #[y]:=by apply Array.ext';simpa using hl
  subst hargs;refine ⟨.int .i64 0,w,?_,bH w none,⟨⟨⟨rfl,λ_ h=>by cases h⟩,λ_ hr=>by cases hr⟩,trivial⟩⟩;unfold execOp;simp [ho,resolve,invoke,builtin,Builtin.len_,run_underlying hT,hv,goInt]
theorem AJ {o:Op}{xs:List Operand} (h:eL T o=some xs):∃y z,o = .slice T y none (some z) none∧xs = [y,z]:=by
 unfold eL at h;split at h
 case h_2=>cases h
 rename_i t y z;split at h
 case isFalse=>cases h
 rename_i ht;subst ht;simp only [Option.some.injEq] at h;exact ⟨y,z,rfl,h.symm⟩
theorem vN  (hT:P.underlying T=some (.slice e)) (hz:dU P e=some sz:=by kernel_rfl):aj Φ P ⟨0,[.lit .nl,.lit (Ai 0)],[⟨.one (.lit .nl),[]⟩],.quiet (eL T)⟩:=λX w ac o xs _ hm ha=>by obtain ⟨y,z,ho,rfl⟩:=AJ hm;have hv:ac.eval y = .slice none 0 0:=ha.1;have hi2:ac.eval z = .int .i64 0:=ha.2.1;refine ⟨.slice none 0 0,w,?_,bH w none,⟨⟨⟨rfl,λ_ h=>by cases h⟩,λ_ hr=>by cases hr⟩,trivial⟩⟩;unfold execOp;simp only [ho,Option.map_none,Option.map_some,hv,hi2];simp [Instr.sliceAt,Instr.slice,run_underlying hT,Instr.sliceBounds,run_sliceBound (P:=P) w .i64 (0:Int) 0 .sliceAcap (by omega) (by omega),run_sizeOf hz]
theorem vO  (hT:P.underlying T=some (.slice e)) (hp:Im Φ p (oo sz e)) (hx:Φ x=aA sz e F 0) (hz:dU P e=some sz:=by kernel_rfl):aj Φ P ⟨0,[.fact p,.lit (Ai 0)],[oS x],.loose [] j 0 (eL T)⟩:=λX L w ac o xs hX hL hLX hm ha hb _=>by
 obtain ⟨y,z,ho,rfl⟩:=AJ hm;obtain ⟨g,n,cap,cur,hv,hh,hc,hs,hn⟩:=hp _ _ (ha.1 w (Off.refl _ _));have hi2:ac.eval z = .int .i64 0:=ha.2.1;have hLg:L g:=hb y g rfl (by rw [hv];rfl);refine ⟨.slice (some ⟨g,0,none⟩) 0 cap,w,none,?_,bH w none,(λ_ h=>by cases h),Kp.refl _,(λ_ _ _ _ h4 h5=>⟨h4,h5⟩),λm hm'=>?_,cP ⟨⟨_,_,_,rfl⟩,λ_ h=>by cases h⟩ hx λw1 hw=>?_⟩
 ·unfold execOp;have ha0:((some (⟨g,0,none⟩:Addr)).map λy=>y.add 0)=some ⟨g,0,none⟩:=by simp [Addr.add_zero']
  simp only [ho,Option.map_none,Option.map_some,hv,hi2];simp [Instr.sliceAt,Instr.slice,run_underlying hT,Instr.sliceBounds,run_sliceBound (P:=P) w .i64 (0:Int) cap .sliceAcap (by omega) (by omega),run_sizeOf hz,Addr.add_zero']
 ·simp only [blk,Option.some.injEq] at hm';subst hm';exact ⟨hL g hLg,.inl hLg⟩
 ·have hw1:w1.heap[g]?=some (.cells cur e (0,0)):=by
   rw [hw.2 g (hL g hLg) (hLX g hLg)];exact hh
  refine ⟨[],rfl,(λ_ h=>by cases h),⟨⟨by simp,.inr ⟨g,cap,cur,rfl,Nat.zero_le _,hw1,Nat.zero_le _,hc,hs,by simp⟩⟩,λg' cur' e' p' hg' hh' u hu=>?_⟩,λ_ _ h=>by simp at h⟩;simp only [Value.ownBlock,Option.some.injEq] at hg';subst hg';rw [hw1] at hh';cases hh';exact hn u hu
end
section
variable {p q x j:Nat}{J:List Nat}
theorem Mn (hq:Im Φ q (Ni (n:Int))) (hx:Φ x=oo 2 28) (h0:0<n:=by omega) (hn:n<=1000000:=by omega):aj Φ prog ⟨0,[.lit .nl,.fact q],[oS x],.loose [] j 0 (cA 25 3)⟩:=λX L w ac o ys hX hL hLX hm ha hb _=>by
 obtain ⟨y,u,hys⟩:∃y u,ys.map ac.eval = [y,u]:=by
  match ys.map ac.eval,ha with
  | [y,u],_=>exact ⟨y,u,rfl⟩
 rw [show List.map ac.eval ys = [y,u] from hys] at ha;obtain ⟨a,b,ho,rfl,ea,eb⟩:=om hm hys;have hy:y = .slice none 0 0:=ha.1;have hu:=hq _ _ (ha.2.1 w (Off.refl _ _));obtain ⟨i0,hi,hz0,hz1,hz2⟩:=info_parts infoI;have hcm:grownCap w (0+n) 0 28<=maxLen:=grownCap_le_maxLen w (0+n) 0 28 (by simp only [maxLen];omega);have hge:=grownCap_ge w (0+n) 0 28;have hr:=Lib.run_append_grow_zeros (P:=prog) w 25 3 o.type 28 i0 _ .i64 .i64 underlying25 underlying3 hi hz0 none 0 0 [] (by simp [Builtin.firstCells]) n h0 (by rw [hz1];omega) (by omega) (by omega) (by rw [hz2];omega) (growslice_fits (by omega) (by rw [hz2];omega));have hrun:=lp (o:=o) (P:=prog) ho (by rw [ea,hy]) (by rw [eb,hu]) hr;have hgr:∀b,w.grownBy (w.drew.alloc b) none:=λb=>⟨rfl,rfl,rfl,(World.grownBy_alloc w.drew b none).size,(World.grownBy_alloc w.drew b none).block⟩;refine ⟨_,_,none,hrun,hgr _,(λ_ h=>by cases h),Kp.of (hgr _),(λ_ _ _ _ h4 h5=>⟨cell_grown (hgr _) h4,gX (hgr _) h4 h5⟩),λm hm'=>?_,cP ⟨⟨_,_,_,rfl⟩,λ_ h=>by cases h⟩ hx λw1 hw=>?_⟩
 ·simp only [blk,Option.some.injEq] at hm';subst hm';exact ⟨by simp,.inr (Nat.le_refl _)⟩
 ·refine ⟨w.heap.size,_,_,_,rfl,(hw.2 w.heap.size (by simp) (λh=>by have:=hX _ h;omega)).trans (heap_alloc_new w.drew _),hcm,?_,λu hu=>?_⟩
  ·simp only [Array.size_append,List.size_toArray,List.length_nil,size_zeroCells,Nat.zero_add] at hge ⊢;rw [show (Value.agg #[.bool false,.slice none 0 0]).cells.size=2 from rfl];omega
  ·simp only [Array.toList_append,List.mem_append] at hu;rcases hu with (hu | hu) | hu
   ·simp at hu
   ·exact lm pU (by decide) _ u hu
   ·exact lm pU (by decide) _ u hu
end
def Mo (n:Nat):List WP:=[Nz n,Nz n,oo 2 28,aA 2 28 (If (λ_=>0) 0) 0]
def Mp:List Step:=[bQ [0,.lit (Ai 0)] oF (am .lss),bQ [.lit .nl] [oL (Ai 0)] (jf 25),bQ [.lit .nl] [oL (Ai 0)] (aC 25),bQ [0,.lit (Ai 0)] [oN 1] (am .sub),bQ [1,.lit (Ai 0)] oT (am .gtr),bQ [.lit .nl] [oL (Ai 0)] (jf 25),bQ [.lit .nl,.lit (Ai 0)] [⟨.one (.lit (.nl)),[]⟩] (eL 25),.base ⟨0,[.lit .nl,1],[oS 2],.loose [] 1 0 (cA 25 3)⟩,bQ [.lit .nl] [oL (Ai 0)] (aC 25),.base ⟨0,[2,.lit (Ai 0)],[oS 3],.loose [] 1 0 (eL 25)⟩]
def Mq:List Out:=[⟨.one (.lit (.nl)),[]⟩,oN 0]
theorem Mr  (hn:n<=1000000) (h0:0<n):eT (ph (Mo n)) prog ⟨140,[.lit (.nl),0],[oS 3],false⟩:=iJ Mq [oS 3] Mp func140 (by kernel_rfl) (lB (cn (op:=.lss) ad (bz (show decide (((n:Nat):Int)<0)=false from decide_eq_false (by omega)) (by simp))) (lB (kB underlying25) (lB (kC underlying25) (lB (cO ad rfl) (lB (gG ad) (lB (kB underlying25) (lB (vN (sz:=2) underlying25) (lB (Mn ad rfl) (lB (kC underlying25) (lB (vO (F:=(If (λ_=>0) 0)) underlying25 ad rfl) au))))))))))
  (aP [.lit (.nl),.fact 0 (.one (.i))] ⟨(λ_ h=>by cases h),λ_ _ h=>h▸cY _,trivial⟩) (λ_ _ _ h=>h)
def Ms (n:Nat):List WP:=[Nz n,Nz n]
def Mt:List Step:=[bQ [0,.lit (Ai 0)] oF (am .lss),bQ [.lit .nl] [oL (Ai 0)] (jf 25),bQ [.lit .nl] [oL (Ai 0)] (aC 25),bQ [0,.lit (Ai 0)] [oN 1] (am .sub),bQ [1,.lit (Ai 0)] oF (am .gtr)]
def Mu:List Out:=[⟨.one (.lit (.nl)),[]⟩,oN 0]
theorem Mv  (h0:n=0):aj (ph (Ms n)) prog ⟨140,[.lit (.nl),0],[⟨.one (.lit (.nl)),[]⟩],false⟩:=adL Mu [⟨.one (.lit (.nl)),[]⟩] Mt func140 (by kernel_rfl) (lB (cn (op:=.lss) ad (bz (show decide (((n:Nat):Int)<0)=false from decide_eq_false (by omega)) (by simp))) (lB (kB underlying25) (lB (kC underlying25) (lB (cO ad rfl) (lB (lu ad) au)))))
  (aP [.lit (.nl),.fact 0 (.one (.i))] ⟨(λ_ h=>by cases h),λ_ _ h=>h▸cY _,trivial⟩) (λ_ _ _ h=>h)
def bj (zz:Nat->Nat->Int) (ln:Nat->Nat):Nat->List Int
 | 0=>[]
 | j+1=>bj zz ln j ++ mk (ln j) (zz j)
theorem sd (zz:Nat->Nat->Int) (ln:Nat->Nat) (j:Nat):(bj zz ln (j+1)).length=(bj zz ln j).length+ln j:=by rw [bj,List.length_append,dc]
theorem se (A B:List Int) (i:Nat):ae (A ++ B) i=if i<A.length then ae A i else ae B (i-A.length):=by unfold ae;simp only [List.getD_eq_getElem?_getD,List.getElem?_append];split <;> rfl
theorem fD  (h:Rw sz F n w v):∃p n c,v = .slice p n c:=by obtain ⟨p,c,rfl,_⟩:=h;exact ⟨_,_,_,rfl⟩
section
variable {p q x j i:Nat}{J:List Nat}{zz:Nat->Nat->Int}{ln:Nat->Nat}
theorem Mw (hq:Im Φ q (Ni (n:Int))) (hx:Φ x=aA 2 28 F 0) (hn:n<=1000000:=by omega):aj Φ prog ⟨140,[.lit .nl,.fact q],[oS x],.eM J j⟩:=by
 rcases Nat.eq_zero_or_pos n with h | h
 ·intro X w vs hX ha;refine (aU (outs:=[⟨.one (.lit .nl),[]⟩]) (Φ:=Φ) (ar:=[.lit .nl,.fact q]) (Mv (n:=n) h) ⟨rfl,hq,trivial⟩ ⟨⟨rfl,trivial⟩,trivial⟩ X w vs hX ha).mono λe w' ⟨hg,us,he,h2⟩=>?_
  match us,h2 with
  | [u],h2=>
   have e':u = .slice none 0 0:=h2.1.1.1;subst e';exact ⟨hg,_,he,cP ⟨⟨_,_,_,rfl⟩,λ_ h=>by cases h⟩ hx λ_ _=>aA.nil _ _ _ _,λ_ hg'=>by cases hg'⟩
 ·exact jF (Mr (n:=n) hn h) ⟨rfl,hq,trivial⟩ ⟨⟨rfl,⟨rfl,rfl,λ_ _ h=>by
   rw [hx];exact aA.to (sz:=2) (e:=28) (n:=0) (F:=If (λ_=>0) 0) h λ_ _ _ hi=>absurd hi (by omega)⟩,trivial⟩,trivial⟩
theorem Mx (hn:(bj zz ln (i+1)).length<=1000000) (hp:Im Φ p (aA 2 28 (If (ae (bj zz ln i)) k) (bj zz ln i).length)) (hq:Im Φ q (Rw 2 (If (zz i) k) (ln i))) (hx:Φ x=aA 2 28 (If (ae (bj zz ln (i+1))) k) (bj zz ln (i+1)).length):aj Φ prog ⟨0,[.fact p,.fact q],[oS x],.loose [] j 0 (cA 25 25)⟩:=by
 obtain ⟨i0,hi,hz0,hz1,hz2⟩:=info_parts infoI;refine sb (F':=λι w v=>aD w v (ae (bj zz ln (i+1)) ι) k) underlying25 hi hz0 hz1 hz2 rfl pU (λ_ _ _ _ g h=>aD.kp h g) hp hq (λι w v hι h=>?_) (λι w v hι h=>?_) (λ_ _ _ h=>aD.dQ h) (by rw [<- sd];exact hn) (by rw [hx,sd])
 ·rw [bj,se,if_pos hι];exact h
 ·rw [bj,se,if_neg (by omega),Nat.add_sub_cancel_left,cU,if_pos hι];exact h
end
def pW (zz:Nat->Nat->Int) (ln:Nat->Nat) (n k:Nat):List WP:=[Rw 1 (je zz ln k) n,Nz n,Ni (((bj zz ln n).length:Nat):Int),aA 2 28 (If (ae (bj zz ln 0)) k) ((bj zz ln 0).length),Nz n,aA 2 28 (If (ae (bj zz ln n)) k) ((bj zz ln n).length)]
def My (zz:Nat->Nat->Int) (ln:Nat->Nat) (k:Nat) (j:Nat):List WP:=[Nz j,aA 2 28 (If (ae (bj zz ln j)) k) ((bj zz ln j).length),λ_ _=>True,λw v=>Ptr 1 (λw v=>∃s,v = .agg #[s]∧Rw 2 (If (zz j) k) (ln j) w s) w v,Rw 2 (If (zz j) k) (ln j),aA 2 28 (If (ae (bj zz ln (j+1))) k) (bj zz ln (j+1)).length,Nz (j+1)]
def AK:bp:=⟨[0,2,3,9,10,11,12,23,24,25,26],[(.slot 27,.i),(.slot 6,.s)],[(.one 0,6),(.one 1,.cM [1] 7),(.one 1,.lo 1)],[.closed (.one (Ai 0)),.frm 3,.frm 0],6,[(7,5)]⟩
def AL:List Step:=[bQ [6,4] oT (am .lss),bQ [0,6] [oP 9] (adK 110),bQ [9] [oS 10] (aQ 25),.base ⟨0,[7,10],[oS 11],.loose [] 1 0 (cA 25 25)⟩,bQ [6,.lit (Ai 1)] [oN 12] (am .add)]
def Mz:List Step:=[bQ [6,4] oF (am .lss)]
def MA (zz:Nat->Nat->Int) (ln:Nat->Nat) (k:Nat) (j:Nat):List WP:=[Nz j,Ni (((bj zz ln j).length:Nat):Int),λw v=>Ptr 1 (λw v=>∃s,v = .agg #[s]∧Rw 2 (If (zz j) k) (ln j) w s) w v,Rw 2 (If (zz j) k) (ln j),Nz (ln j),Ni (((bj zz ln (j+1)).length:Nat):Int),Nz (j+1)]
def AM:bp:=⟨[0,2,9,10],[(.slot 11,.i),(.slot 3,.i)],[(.one 0,6),(.one 1,7)],[.closed (.one (Ai 0)),.closed (.one (Ai 0))],6,[(7,2)]⟩
def AN:List Step:=[bQ [6,1] oT (am .lss),bQ [0,6] [oP 8] (adK 110),bQ [8] [oS 9] (aQ 25),bQ [9] [oN 10] (aC 25),bQ [7,10] [oN 11] (am .add),bQ [11,.lit (Ai 0)] oF (am .lss),bQ [6,.lit (Ai 1)] [oN 12] (am .add)]
def MB:List Step:=[bQ [6,1] oF (am .lss)]
def MC:List Step:=[bQ [0] [oN 1] (aC 110),.loop AM [(AN,[.frm 12,.frm 11])] MB,.base ⟨140,[.lit .nl,2],[oS 3],.eM [] 1⟩,bQ [0] [oN 4] (aC 110),.loop AK [(AL,[.frm 12,.frm 11,.frm 0])] Mz]
def MD:List Out:=[oS 0]
theorem ME {zz:Nat->Nat->Int}{ln:Nat->Nat} (hn:n<=1000) (hs:∀j,j<=n->(bj zz ln j).length<=1000000):eT (ph (pW zz ln n k)) prog ⟨104,[0],[oS 5],false⟩:=by
 have hsn:=hs n (Nat.le_refl n);exact iJ MD [oS 5] MC func104 (by kernel_rfl) (lB (aM (F:=(je zz ln k)) underlying110 ad rfl) (bN (counted n (λj=>ph (pW zz ln n k ++ MA zz ln k j)) (λ_=>0) (λ_ p hp=>bO (show p<(pW zz ln n k).length from hp)) ⟨λ_=>rfl,λ_=>rfl,trivial⟩ (λj _=>by
   have hs1:=hs (j+1) (by omega);have hs0:=hs j (by omega);exact ⟨(AN,[.frm 12,.frm 11]),rfl,⟨ad,ad,trivial⟩,(lB (bK ad ad) (lB (bw (i:=j) (F:=(je zz ln k)) underlying110 ad ad rfl) (lB (iH ad (λ_ _ h=>fD h) rfl) (lB (aM (F:=(If (zz j) k)) underlying25 ad rfl) (lB (jG ad ad (hc:=(by rw [sd];omega)) rfl) (lB (cn (op:=.lss) ad (bz (show decide ((((bj zz ln (j+1)).length:Nat):Int)<0)=false from decide_eq_false (by omega)) (by simp))) (lB (ch ad rfl) au)))))))⟩) (lB (tlF ad ad) au)
   (poC (λ_ _ h=>(λh=>h) h) poN)) (lB (Mw (F:=(If (ae (bj zz ln 0)) k)) ad rfl) (lB (aM (F:=(je zz ln k)) underlying110 ad rfl) (bN (counted n (λj=>ph (pW zz ln n k ++ My zz ln k j)) (λ_=>0) (λ_ p hp=>bO (show p<(pW zz ln n k).length from hp)) ⟨λ_=>rfl,ad,bI,trivial⟩ (λj _=>by
   skip
   exact ⟨(AL,[.frm 12,.frm 11,.frm 0]),rfl,⟨ad,ad,bI,trivial⟩,(lB (bK ad ad) (lB (bw (i:=j) (F:=(je zz ln k)) underlying110 ad ad rfl) (lB (iH ad (λ_ _ h=>fD h) rfl) (lB (Mx (hs (j+1) (by omega)) ad ad rfl) (lB (ch ad rfl) au)))))⟩) (lB (tlF ad ad) au)
   (poC (λ_ _ h=>(λh=>h) h) poN)) au)))))
  (aP [.fact 0 (.one (.s))] ⟨Rw.Is 1 (je zz ln k) n,trivial⟩) aV
theorem set_mid:∀(v pre xs post:List Value) (o j:Nat),xs.length=v.length->pre.length=o+j->(v.zipIdx j).foldl (λ(cs:Array Value) (c:Value×Nat)=>cs.setIfInBounds (o+c.2) c.1) (pre ++ xs ++ post).toArray=(pre ++ v ++ post).toArray
 | [],pre,[],post,o,j,_,_=>by simp
 | y :: v,pre,[],post,o,j,h,_=>by simp at h
 | [],pre,x :: xs,post,o,j,h,_=>by simp at h
 | y :: v,pre,x :: xs,post,o,j,h,hp=>by
  simp only [List.zipIdx_cons,List.foldl_cons];have e:(pre ++ x :: xs ++ post).toArray.setIfInBounds (o+j) y=(pre ++ [y] ++ xs ++ post).toArray:=by rw [<- hp];simp [List.set_append_right]
  rw [e,set_mid v (pre ++ [y]) xs post o (j+1) (by simpa using h) (by simp [hp];omega)];simp
theorem KL {sz:Nat}:∀(vs:List Value) (pre post:List Value) (k:Nat),pre.length=k*sz->(∀v,v ∈ vs->v.cells.size=sz)->post.length=vs.length*sz->Instr.fill (λi=>some (i*sz,sz)) (pre ++ post).toArray ((List.range' k vs.length).zip vs)=some (pre ++ vs.flatMap λv=>v.cells.toList).toArray
 | [],pre,post,k,_,_,hl=>by have:post = []:=List.eq_nil_of_length_eq_zero (by simpa using hl);subst this;rfl
 | v :: vs,pre,post,k,hk,hv,hl=>by
  have h1:=hv v (List.mem_cons_self ..);have hl':post.length=vs.length*sz+sz:=by rw [hl,List.length_cons,Nat.succ_mul]
  have e:List.range' k (v :: vs).length=k :: List.range' (k+1) vs.length:=by simp [List.range'_succ]
  rw [e,List.zip_cons_cons,Instr.fill];simp only [];have hc:¬((decide (v.cells.size≠sz) || decide (k*sz+v.cells.size > (pre ++ post).toArray.size))=true):=by simp [h1,hk];omega
  rw [if_neg hc];have e2:(v.cells.zipIdx.foldl (λcs (c,j)=>cs.setIfInBounds (k*sz+j) c) (pre ++ post).toArray)=(pre ++ v.cells.toList ++ post.drop sz).toArray:=by have h3:=set_mid v.cells.toList pre (post.take sz) (post.drop sz) (k*sz) 0 (by simp [h1];omega) (by omega);rw [List.append_assoc,List.take_append_drop] at h3;rw [<- h3,<- Array.foldl_toList];simp
  have ih:=KL vs (pre ++ v.cells.toList) (post.drop sz) (k+1) (by simp [hk,h1,Nat.succ_mul]) (λu hu=>hv u (List.mem_cons_of_mem _ hu)) (by simp;omega);rw [e2,ih];simp
theorem KM {sz:Nat}:∀{vs:List Value} (_:∀v,v ∈ vs->v.cells.size=sz) (i k:Nat) (hi:i<vs.length),k<sz->(vs.flatMap λv=>v.cells.toList)[i*sz+k]?=vs[i].cells.toList[k]?
 | v :: vs,hv,0,k,_,hk=>by have h1:=hv v (List.mem_cons_self ..);simp only [List.flatMap_cons,Nat.zero_mul,Nat.zero_add,List.getElem_cons_zero];rw [List.getElem?_append_left (by simp [h1];exact hk)]
 | v :: vs,hv,i+1,k,hi,hk=>by
  have h1:=hv v (List.mem_cons_self ..);simp only [List.flatMap_cons,List.getElem_cons_succ];rw [List.getElem?_append_right (by simp [h1,Nat.succ_mul];omega)];have e:(i+1)*sz+k-v.cells.toList.length=i*sz+k:=by simp [h1,Nat.succ_mul];omega
  rw [e];exact KM (λu hu=>hv u (List.mem_cons_of_mem _ hu)) i k (by simpa using hi) hk
section
variable {x:Nat}
theorem fM {J:List Nat}{ps:List Nat} (hT:P.underlying T=some (.slice e)){zc:C} (hl:ps.length=n) (hF:∀i p,ps[i]?=some p->∀w v,Φ p w v->v.cells.size=sz∧F i w (.agg v.cells)) (hx:Φ x=Rw sz F n) (hz:dU P e=some sz:=by kernel_rfl) (hz0:0<sz:=by omega) (h0:zeroAt P e=some zc:=by kernel_rfl) (hn:0<n∧n<=1000:=by omega) (hsz:sz<=1000:=by omega) :
  aj Φ P ⟨0,.any :: ps.map Arg.fact,[oS x],.fresh J (dl T n)⟩:=λX w ac o xs hX hm ha=>by
 unfold dl at hm;split at hm
 case h_2=>cases hm
 rename_i t len parts ho;split at hm
 case isFalse=>cases hm
 rename_i hc;obtain ⟨rfl,rfl,hr⟩:=hc;simp only [Option.some.injEq] at hm;subst hm;obtain ⟨hvl,hv⟩:=vK ha.2;generalize hvs:(parts.toList.map (·.2)).map ac.eval=vs at *
 have hone:∀v,v ∈ vs->v.cells.size=sz:=λv hv'=>by obtain ⟨i,hi,rfl⟩:=List.mem_iff_getElem.1 hv';have hp:ps[i]?=some ps[i]:=List.getElem?_eq_getElem (by omega);exact (hF i _ hp w _ (hv i _ _ hp (List.getElem?_eq_getElem hi) w (Off.refl _ _))).1
 have hlen:vs.length=len:=by omega
 have hparts:(parts.map λ(q:Nat×Operand)=>(q.1,ac.eval q.2)).toList=(List.range' 0 vs.length).zip vs:=by
  have e3:(parts.map λ(q:Nat×Operand)=>(q.1,ac.eval q.2)).toList=parts.toList.map λq=>(q.1,ac.eval q.2):=by simp
  rw [e3,vJ ac.eval hr,hvs,hlen,List.range_eq_range']
 have yV:Instr.fill (λi=>some (i*sz,sz)) ((Array.range (len*sz)).map λj=>((zc.cells.map (Atom.ev da)).toArray)[j % (zc.cells.map (Atom.ev da)).toArray.size]!) ((List.range' 0 vs.length).zip vs)=some (vs.flatMap λv=>v.cells.toList).toArray:=by
  generalize hA:((Array.range (len*sz)).map λj=>((zc.cells.map (Atom.ev da)).toArray)[j % (zc.cells.map (Atom.ev da)).toArray.size]!)=A;have hs:A.size=len*sz:=by rw [<- hA];simp
  have e:A=([] ++ A.toList).toArray:=by simp
  rw [e];exact KL vs [] A.toList 0 (by simp) hone (by simp [hs,hlen])
 have hrun:(execOp ac.eval o).run P w = .ok (.value (.slice (some ⟨w.heap.size,0,none⟩) len len)) (w.alloc (.cells (vs.flatMap λv=>v.cells.toList).toArray e)):=by
  have hle:len*sz<=1000*1000:=Nat.mul_le_mul hn.2 hsz;have hpos:0<len*sz:=Nat.mul_pos hn.1 hz0;have e5:¬(len*sz > 2 ^ 24):=by omega
  have h2:¬(sz=0):=by omega
  have h3:¬(len*sz=0):=by omega
  unfold execOp;simp only [ho];simp only [Instr.buildSlice,Sem.run_bind,run_underlying hT,Result.andThen_ok,run_sizeOf hz];rw [Sem.run_ite,if_neg e5];simp only [if_neg h3,Sem.run_bind,ui h0 da,Result.andThen_ok,kR,Sem.run_pure];rw [show (parts.map λx=>match x with | (i,x)=>(i,ac.eval x))=parts.map λ(q:Nat×Operand)=>(q.1,ac.eval q.2) from rfl,hparts,yV];simp [newRow]
 have hg:=World.grownBy_alloc w (.cells (vs.flatMap λv=>v.cells.toList).toArray e) none;refine ⟨_,_,hrun,hg,cP ⟨⟨_,_,_,rfl⟩,λ_ h=>by cases h⟩ hx λw1 hw=>?_⟩
 ·refine ⟨_,_,rfl,Nat.le_refl _,λi hi=>⟨_,_,rfl,(vs[i]'(by omega)).cells.toList,by simpa using hone _ (List.getElem_mem _),λk u hk=>?_,?_⟩⟩
  ·have hk1:k<sz:=by
    have:=(List.getElem?_eq_some_iff.1 hk).1;have h1:=hone (vs[i]'(by omega)) (List.getElem_mem _);simp only [Array.length_toList] at this;omega
   have hbk:=hw.2 w.heap.size (by simp) (λh=>by have:=hX _ h;omega);rw [World.cell?_of_block hbk,World.cell?_alloc_new];rw [Nat.zero_add,List.getElem?_toArray,KM hone i k (by omega) hk1];exact hk
  ·have hp:ps[i]?=some (ps[i]'(by omega)):=List.getElem?_eq_getElem (by omega);exact (hF i _ hp w1 _ (hv i _ _ hp (List.getElem?_eq_getElem (by omega)) w1 ((Off.grown hg).trans hw λ_ _ h=>h))).2
end
theorem ah.cells4 {q:Rat} (h:ah w v q k):v.cells.size=4∧ah w (.agg v.cells) q k:=by obtain ⟨l,rfl,hl,_⟩:=ah.cells h;exact ⟨by simpa [Value.cells] using hl,h⟩
section
variable {J:List Nat}{p q x k1 k2:Nat}{a b:Rat}
end
theorem Rw.own'  (h:Rw sz F n w v) (hK:∀i w w1 v,Kp w w1->F i w v->F i w1 v) (k:Kp w w1) (hb:0<n->∀g,blk v=some g->w1.heap[g]?=w.heap[g]?):Rw sz F n w1 v:=by obtain ⟨p,c,rfl,hc,he⟩:=h;refine ⟨p,c,rfl,hc,λi hi=>?_⟩;obtain ⟨b,off,rfl,l,h1,h2,h3⟩:=he i hi;refine ⟨b,off,rfl,l,h1,λj u hj=>?_,hK _ _ _ _ k h3⟩;rw [World.cell?_of_block (hb (by omega) b rfl)];exact h2 j u hj
def ahr (b:Option Nat) (zz:Nat->Nat->Int) (ln:Nat->Nat) (k:Nat) (i:Nat) (w:World) (v:Value):Prop:=∃s,v = .agg #[s]∧Rw 2 (λj w v=>aD w v (zz i j) k) (ln i) w s∧(0<ln i->∀g,blk s=some g->b≠some g)
def pE (e:TypeId) (zz:Nat->Nat->Int) (ln:Nat->Nat) (k n:Nat) (w:World) (v:Value):Prop:=aA 1 e (ahr (blk v) zz ln k) n w v
section
variable {zz:Nat->Nat->Int}{ln:Nat->Nat}{y:Value}
theorem pE.rw (h:pE e zz ln k n w v):Rw 1 (je zz ln k) n w v:=Rw.to (sz:=1) (aA.rw h) λ_ _ _ _ ⟨s,e,h,_⟩=>⟨s,e,h⟩
theorem pE.nil (e:TypeId) (zz:Nat->Nat->Int) (ln:Nat->Nat) (k:Nat) (w:World):pE e zz ln k 0 w (.slice none 0 0):=aA.nil _ _ _ _
theorem pE.is (h:pE e zz ln k n w v):(cC.one .s).is v:=by obtain ⟨p,c,rfl,_⟩:=h.rw;exact ⟨⟨_,_,_,rfl⟩,λ_ h=>by cases h⟩
end
end Go.Proofs.YtlmanbjkkjfjgaaGreat.Sym
