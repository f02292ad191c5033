/- The reference's DivMod o -/
import Derived.Test.YtlmanbjkkjfjgaaGreatDivN
set_option maxRecDepth 100000
namespace Go.Proofs.YtlmanbjkkjfjgaaGreat.Sym
open Go.Proofs.Tryz
open Go.RowKit
variable {b q:Nat->Rat}{c t:Rat}{K N d i j k kd kg m n:Nat}{F:PH}{w w1:World}{v:Value}{R dL wz:Nat->Int}{u:Int}{PL:List Int}
def sB (b:Nat->Rat) (c:Rat) (d i:Nat):Rat:=if i<d then 0 else b (i-d)*c
theorem PN  (h:i<d):sB b c d i=0:=if_pos h
theorem CA :sB b c d (d+i)=b i*c:=by rw [sB,if_neg (by omega),Nat.add_sub_cancel_left]
theorem Rw.own {sz:Nat} (h:Rw sz F n w v) (hK:∀i w w1 v,Kp w w1->F i w v->F i w1 v) (k:Kp w w1) (hb:∀g,blk v=some g->w1.heap[g]?=w.heap[g]?):Rw sz F n w1 v:=by obtain ⟨p,c,rfl,hc,he⟩:=h;refine ⟨p,c,rfl,hc,λi hi=>?_⟩;obtain ⟨b,off,rfl,l,h1,h2,h3⟩:=he i hi;refine ⟨b,off,rfl,l,h1,λj u hj=>?_,hK _ _ _ _ k h3⟩;rw [World.cell?_of_block (hb b rfl)];exact h2 j u hj
theorem CB.kp  (h:i<j->ah w v 0 K) (g:Kp w w1):i<j->ah w1 v 0 K:=λhi=>ah.kp (h hi) g
theorem PO {Φ:PH}{p q x:Nat}{G F':PH} (hK:∀i w w1 v,Kp w w1->F' i w v->F' i w1 v) (hp:Im Φ p (aA 4 57 F n)) (hq:Im Φ q (Rw 4 G m)) (h1F:∀i w v,i<n->F i w v->F' i w v) (h1G:∀i w v,i<m->G i w v->F' (n+i) w v) (hc:∀i w (l:List Value),G i w (.agg l.toArray)->∀u,u ∈ l->u.oneCell'=true∧dd u) (hx:Φ x=aA 4 57 F' (n+m)) (hn:n+m<=1000000:=by omega):aj Φ prog ⟨0,[.fact p,.fact q],[oS x],.loose [] j 0 (cA 38 38)⟩:=by obtain ⟨i0,hi,hz0,hz1,hz2⟩:=info_parts pT;exact sb underlying38 hi hz0 hz1 hz2 rfl pV hK hp hq h1F h1G hc hn hx
def mU (a:Nat->Nat->Rat) (N:Nat->Nat) (b:Nat->Rat) (Q:Nat->Nat->Rat) (m R k l L:Nat):List WP:=[Rw 4 (Df (a 0) k) (N 0),Rw 4 (Df b l) m,Nz (N 0),Nz m,Ni ((((N 0):Nat):Int)-((m:Nat):Int)),Ni ((((N 0):Nat):Int)-((m:Nat):Int)+1),Nz L,λw v=>aA 4 57 (λι w v=>ι<0->ah w v 0 k) L w v,fb L,Nz L,aA 4 57 (Df (Q 0) k) L,Rw 4 (Df (a R) k) (N R),aA 4 57 (Df (Q R) k) L,Rw 4 (Df (Q R) k) (tl (λι=>(Q R ι).num) L)]
def PP (N:Nat->Nat) (m k:Nat) (j u:Nat):List WP:=[Nz u,λw v=>aA 4 57 (λι w v=>ι<u->ah w v 0 k) (N j-m) w v,λ_ _=>True,Dw (aH 0 1) 6,Jw ((aH 0 1).num) 6,Jw ((aH 0 1).den:Int) 6,At 4,λw v=>Ptr 4 (λw v=>u<u->ah w v 0 k) w v,λw v=>aA 4 57 (λι w v=>ι<(u+1)->ah w v 0 k) (N j-m) w v,Nz (u+1)]
def CC:bp:=⟨[0,1,4,5,6,8,9,12,13,14,15,16,17,18,19,20,21,22,23,30,31,32,33,34,35,36,37,38,39,40,41,42,43,44,45,46,47,48,49,50,51,52,53,54,55,56,57,58,59,60],[(.slot 61,.i),(.slot 10,.s)],[(.one 0,50),(.one 1,.cM [2] 51),(.one 1,.lo 2)],[.closed (.one (Ai 0)),.frm 37,.frm 0],50,[(51,40)]⟩
def CD:List Step:=[bQ [50,39] oT (am .lss),
   cB 150 [] [⟨.agg [.s,.b,.s,.b],[(0,0,53),(0,2,54),(2,2,55)]⟩],.base ⟨0,[51,50],[oP 57],.joint [2] 56 (adK 38)⟩,.base ⟨0,[51,50,.any,53],[oS 58],.put [] 2 0 56 (fE 57 (.tmp 64) (.tmp 65))⟩,bQ [50,.lit (Ai 1)] [oN 59] (am .add)]
def PQ:List Step:=[bQ [50,39] oF (am .lss)]
def wI (a:Nat->Nat->Rat) (N:Nat->Nat) (b c:Nat->Rat) (Q:Nat->Nat->Rat) (m k l L:Nat) (j:Nat):List WP:=[Rw 4 (Df (a j) k) (N j),aA 4 57 (Df (Q j) k) L,λ_ _=>True,fb (N j),Nz (N j),Nz m,Nz (N j),Nz m,Nz (N j-m),Nz (N j),Nz (N j-1),Ptr 4 (Dw ((a j (N j-1))) k),Dw ((a j (N j-1))) k,Nz m,Nz (m-1),Ptr 4 (Dw (b (m-1)) l),Dw (b (m-1)) l,Dw (c j) (2*(k+l)+2),Jw ((c j).num) (2*(k+l)+2),Jw ((c j).den:Int) (2*(k+l)+2),At 4,Ptr 4 (Dw (Q j (N j-m)) k),aA 4 57 (Df (Q (j+1)) k) L,λw v=>aA 4 57 (λι w v=>ι<0->ah w v 0 k) (N j-m) w v,fb (N j-m),Nz (N j-m),λw v=>aA 4 57 (λι w v=>ι<(N j-m)->ah w v 0 k) (N j-m) w v,Nz (N j),Nz (N j),Rw 4 (Df (a j) k) (N j),λw v=>Rw 4 (λι w v=>ah w v ((b ι*c j)) k) m w v,aA 4 57 (Df (sB b (c j) (N j-m)) k) ((N j-m)+m),aA 4 57 (Df (dX (a j) (N j) (sB b (c j) (N j-m)) ((N j-m)+m)) k) (N (j+1)),fb (N j),Nz (N j),Nz m]
def CE:bp:=⟨[1,4,5,12,13,14,15,16,17,18,19,20,21,22,23],[(.slot 0,.s),(.slot 6,.s)],[(.one 0,.cM [3] 14),(.one 1,.cM [1] 15),(.one 1,.lo 1)],[.frm 0,.frm 10,.frm 0],14,[(14,11),(15,12)]⟩
def CF:List Step:=[.freed (.one (.s 17 0)) 14 17,bQ [17] [oN 18] (aC 38),bQ [1] [oN 19] (aC 38),bQ [18,19] oT (am .geq),bQ [17] [oN 20] (aC 38),bQ [1] [oN 21] (aC 38),bQ [20,21] [oN 22] (am .sub),bQ [17] [oN 23] (aC 38),bQ [23,.lit (Ai 1)] [oN 24] (am .sub),.base ⟨0,[14,24],[oP 25],.gI [3] (adK 38)⟩,.base ⟨0,[25],[oQ 26],.jj [3] (aQ 57)⟩,bQ [1] [oN 27] (aC 38),bQ [27,.lit (Ai 1)] [oN 28] (am .sub),bQ [1,28] [oP 29] (adK 38),bQ [29] [oQ 30] (aQ 57),
   cB 152 [26,30] [⟨.agg [.s,.b,.s,.b],[(0,0,31),(0,2,32),(2,2,33)]⟩],.base ⟨0,[15,22],[oP 35],.joint [1] 34 (adK 38)⟩,.base ⟨0,[15,22,.any,31],[oS 36],.put [] 1 0 34 (fE 57 (.tmp 53) (.tmp 54))⟩,.base ⟨0,[22,22],[oS 37],.loose [] 2 0 (ga 38)⟩,.freed (.one (.s 50 0)) 37 38,bQ [38] [oN 39] (aC 38),.loop CC [(CD,[.frm 59,.frm 58,.frm 0])] PQ,bQ [17] [oN 41] (aC 38),bQ [17] [oN 42] (aC 38),.base ⟨0,[14,41,42],[oS 43],.gI [3] (vI 38)⟩,
   cB 82 [1,31] [oS 44],.base ⟨0,[40,44],[oS 45],.loose [] 2 0 (cA 38 38)⟩,.base ⟨168,[43,45],[oS 46],.eM [2,3] 3⟩]
def PR:List Step:=[.freed (.one (.s 17 0)) 14 47,bQ [47] [oN 48] (aC 38),bQ [1] [oN 49] (aC 38),bQ [48,49] oF (am .geq)]
def PS (k L:Nat) (u:Nat):List WP:=[Nz u,λw v=>aA 4 57 (λι w v=>ι<u->ah w v 0 k) L w v,λ_ _=>True,Dw (aH 0 1) 6,Jw ((aH 0 1).num) 6,Jw ((aH 0 1).den:Int) 6,At 4,λw v=>Ptr 4 (λw v=>u<u->ah w v 0 k) w v,λw v=>aA 4 57 (λι w v=>ι<(u+1)->ah w v 0 k) L w v,Nz (u+1)]
def CG:bp:=⟨[0,1,4,5,12,13,14,15,16,17,18,19,20,21],[(.slot 22,.i),(.slot 6,.s)],[(.one 0,14),(.one 1,.cM [1] 15),(.one 1,.lo 1)],[.closed (.one (Ai 0)),.frm 7,.frm 0],14,[(15,10)]⟩
def CH:List Step:=[bQ [14,9] oT (am .lss),
   cB 150 [] [⟨.agg [.s,.b,.s,.b],[(0,0,17),(0,2,18),(2,2,19)]⟩],.base ⟨0,[15,14],[oP 21],.joint [1] 20 (adK 38)⟩,.base ⟨0,[15,14,.any,17],[oS 22],.put [] 1 0 20 (fE 57 (.tmp 25) (.tmp 26))⟩,bQ [14,.lit (Ai 1)] [oN 23] (am .add)]
def PT:List Step:=[bQ [14,9] oF (am .lss)]
def PU:List Step:=[bQ [0] [oN 2] (aC 38),bQ [1] [oN 3] (aC 38),bQ [2,3] [oN 4] (am .sub),bQ [4,.lit (Ai 1)] [oN 5] (am .add),bQ [5,.lit (Ai 0)] [oN 6] (kF .max),.base ⟨0,[6,6],[oS 7],.loose [] 1 0 (ga 38)⟩,.freed (.one (.s 10 0)) 7 8,bQ [8] [oN 9] (aC 38),.loop CG [(CH,[.frm 23,.frm 22,.frm 0])] PT,.loop CE [(CF,[.own 46 3,.frm 36,.frm 0])] PR,.base ⟨42,[12],[oS 13],.dR [1] false⟩]
def PV:List Out:=[oS 0,oS 1]
theorem PW {a:Nat->Nat->Rat}{N:Nat->Nat}{c:Nat->Rat}{Q:Nat->Nat->Rat}{R l L:Nat} (hN:∀j,N j<=1000) (hk:k<=1000) (hl:l<=1000) (hk1:1<=k) (hge:∀j,j<R->m<=N j) (hlt:N R<m) (hL:(if m<=N 0 then N 0-m+1 else 0)=L) (hNL:∀j,j<R->N j-m<L) (hb0:b (m-1)≠0) (hc:∀j,j<R->a j (N j-1) / b (m-1)=c j) (hcB:∀j,j<R->Bd (c j).num.natAbs k∧Bd (c j).den k) (hS:∀j,j<R->∀i,i<m->Bd (b i*c j).num.natAbs k∧Bd (b i*c j).den k) (hST:∀j,j<R->tl (λi=>(b i*c j).num) m=m) (hSB:∀j,j<R->∀i,i<(N j-m)+m->Bd (sB b (c j) (N j-m) i).num.natAbs k∧Bd (sB b (c j) (N j-m) i).den k) (hSt:∀j,j<R->0<(N j-m)+m->(sB b (c j) (N j-m) ((N j-m)+m-1)).num≠0) (hD:∀j,j<R->∀i,dX (a j) (N j) (sB b (c j) (N j-m)) ((N j-m)+m) i=a (j+1) i) (hDB:∀j,j<R->∀i,i<N j->Bd (a (j+1) i).num.natAbs k∧Bd (a (j+1) i).den k) (hDN:∀j,j<R->tl (λi=>(a (j+1) i).num) (max (N j) ((N j-m)+m))=N (j+1)) (hQ0:∀i,Q 0 i=0) (wJ:∀j,j<R->Q (j+1) (N j-m)=c j) (hQ2:∀j,j<R->∀i,i≠(N j-m)->Q (j+1) i=Q j i) (hm0:0<m:=by omega) (hm:m<=1000:=by omega):aj (ph (mU a N b Q m R k l L)) prog ⟨149,[0,1],[oS 13,oS 11],true⟩:=by
 have hN0:=hN 0;have hL1:L<=1000:=by rw [<- hL];split <;> omega
 exact adL PV [oS 13,oS 11] PU func149 (by kernel_rfl) (lB (aM (F:=(Df (a 0) k)) underlying38 ad rfl) (lB (aM (F:=(Df b l)) underlying38 ad rfl) (lB (sJ ad ad (hc:=(rfl)) rfl) (lB (ch ad (hc:=(rfl)) rfl) (lB (PX ad (by rw [<- hL];split <;> split <;> omega) rfl) (lB (vE (n:=L) (F:=(λι w v=>ι<0->ah w v 0 k)) ad (λ_ _ h=>absurd h (by omega)) rfl) (gu (mM (e:=57) (sz:=4) (n:=L) (F:=(λι w v=>ι<0->ah w v 0 k)) ad rfl) (lB (eH (n:=L) underlying38 ad rfl) (bN (counted L (λu=>ph (mU a N b Q m R k l L ++ PS k L u)) (λ_=>0) (λ_ p hp=>bO (show p<(mU a N b Q m R k l L).length from hp)) ⟨λ_=>rfl,ad,bI,trivial⟩ (λu _=>by
   skip
   exact ⟨(CH,[.frm 23,.frm 22,.frm 0]),rfl,⟨ad,ad,bI,trivial⟩,(lB (bK ad ad) (lB (qj rfl rfl rfl) (lB (fO (i:=u) (sz:=4) (n:=L) (F:=(λι w v=>ι<u->ah w v 0 k)) underlying38 (λ_ _ h=>aA.arr h) ad rfl rfl) (lB (ij (i:=u) (n:=L) (F:=(λι w v=>ι<u->ah w v 0 k)) (F':=(λι w v=>ι<(u+1)->ah w v 0 k)) (G:=Dw (aH 0 1) 6) (.tmp 25) (.tmp 26) ad ad ad rfl (λ_ _ h=>ah.cells h) (λ_ _ _ _ g h=>CB.kp h g) (λ_ _ _ g h=>ah.kp h g) (λ_ _ _ _ h _=>h (by omega)) (λ_ _ h _=>ah.dm (h.eq wD) (Nat.pow_pos (by omega)) (dV hk1)) rfl) (lB (ch ad rfl) au)))))⟩) (lB (tlF ad ad) au)
   (poC (λ_ _ h=>(λh=>aA.to (sz:=4) (e:=57) (n:=L) (F:=(λι w v=>ι<L->ah w v 0 k)) (G:=(λι w v=>ah w v (Q 0 ι) k)) h λ_ _ _ hi h=>by rw [hQ0];exact h hi) h) poN)) (bN (counted R (λj=>ph (mU a N b Q m R k l L ++ wI a N b c Q m k l L j)) (λ_=>0) (λ_ p hp=>bO (show p<(mU a N b Q m R k l L).length from hp)) ⟨ad,ad,bI,trivial⟩ (λj hj=>by
   have h1:=hge j hj;have h2:=hNL j hj;have h3:=hN j;exact ⟨(CF,[.own 46 3,.frm 36,.frm 0]),rfl,⟨λw _ v h hK hB=>Rw.own (sz:=4) (n:=N (j+1)) (F:=λi w v=>ah w v (a (j+1) i) k) (Rw.to (sz:=4) (n:=N (j+1)) (F:=λi w v=>ah w v (dX (a j) (N j) (sB b (c j) (N j-m)) ((N j-m)+m) i) k) (G:=λi w v=>ah w v (a (j+1) i) k) (aA.rw (e:=57) h) λi _ _ _ h=>by rw [<- hD j hj i];exact h) (λ_ _ _ _ g h=>ah.kp h g) hK hB,ad,bI,trivial⟩,(gu (λ_ _ _ h=>Rw.sK (sz:=4) (n:=(N j)) (F:=(λι w v=>ah w v ((a j ι)) k)) h) (lB (eH (n:=(N j)) underlying38 ad rfl) (lB (aM (F:=(Df b l)) underlying38 ad rfl) (lB (sF ad ad) (lB (eH (n:=(N j)) underlying38 ad rfl) (lB (aM (F:=(Df b l)) underlying38 ad rfl) (lB (sJ ad ad rfl) (lB (eH (n:=(N j)) underlying38 ad rfl) (lB (cO ad rfl) (lB (bw (i:=(N j-1)) (F:=(Df (a j) k)) underlying38 ad ad rfl) (lB (mN (sz:=4) (F:=Dw ((a j (N j-1))) k) ad (λ_ _ _ g h=>ah.kp h g) (λ_ _ h=>ah.is h) rfl) (lB (aM (F:=(Df b l)) underlying38 ad rfl) (lB (cO ad rfl) (lB (bw (i:=(m-1)) (F:=(Df b l)) underlying38 ad ad rfl) (lB (bT (sz:=4) (F:=Dw (b (m-1)) l) ad (λ_ _ _ g h=>ah.kp h g) (λ_ _ h=>ah.is h) rfl) (lB (qk tS tS rfl rfl rfl (hb0) (hc j hj)) (lB (fO (i:=(N j-m)) (sz:=4) (n:=L) (F:=(Df (Q j) k)) underlying38 (λ_ _ h=>aA.arr h) ad rfl rfl) (lB (ij (i:=(N j-m)) (n:=L) (F:=(λι w v=>ah w v (Q j ι) k)) (F':=(λι w v=>ah w v (Q (j+1) ι) k)) (G:=Dw (c j) (2*(k+l)+2)) (.tmp 53) (.tmp 54) ad ad ad rfl (λ_ _ h=>ah.cells h) (λ_ _ _ _ g h=>ah.kp h g) (λ_ _ _ g h=>ah.kp h g) (λi _ _ hi h=>by rw [hQ2 j hj i hi];exact h) (λ_ _ h=>by rw [wJ j hj];exact ah.dm h (hcB j hj).1 (hcB j hj).2) rfl) (lB (vE (n:=(N j-m)) (F:=(λι w v=>ι<0->ah w v 0 k)) ad (λ_ _ h=>absurd h (by omega)) rfl) (gu (mM (e:=57) (sz:=4) (n:=(N j-m)) (F:=(λι w v=>ι<0->ah w v 0 k)) ad rfl) (lB (eH (n:=(N j-m)) underlying38 ad rfl) (bN (counted (N j-m) (λu=>ph ((mU a N b Q m R k l L ++ wI a N b c Q m k l L j) ++ PP N m k j u)) (λ_=>0) (λ_ p hp=>bO (show p<(mU a N b Q m R k l L ++ wI a N b c Q m k l L j).length from hp)) ⟨λ_=>rfl,ad,bI,trivial⟩ (λu _=>by
   skip
   exact ⟨(CD,[.frm 59,.frm 58,.frm 0]),rfl,⟨ad,ad,bI,trivial⟩,(lB (bK ad ad) (lB (qj rfl rfl rfl) (lB (fO (i:=u) (sz:=4) (n:=(N j-m)) (F:=(λι w v=>ι<u->ah w v 0 k)) underlying38 (λ_ _ h=>aA.arr h) ad rfl rfl) (lB (ij (i:=u) (n:=(N j-m)) (F:=(λι w v=>ι<u->ah w v 0 k)) (F':=(λι w v=>ι<(u+1)->ah w v 0 k)) (G:=Dw (aH 0 1) 6) (.tmp 64) (.tmp 65) ad ad ad rfl (λ_ _ h=>ah.cells h) (λ_ _ _ _ g h=>CB.kp h g) (λ_ _ _ g h=>ah.kp h g) (λ_ _ _ _ h _=>h (by omega)) (λ_ _ h _=>ah.dm (h.eq wD) (Nat.pow_pos (by omega)) (dV hk1)) rfl) (lB (ch ad rfl) au)))))⟩) (lB (tlF ad ad) au)
   (poC (λ_ _ h=>(λh=>h) h) poN)) (lB (eH (n:=(N j)) underlying38 ad rfl) (lB (eH (n:=(N j)) underlying38 ad rfl) (lB (Mm (n:=(N j)) (F:=(Df (a j) k)) underlying38 ad ad ad rfl) (lB (jk (q:=b) (c:=c j) (n:=m) (K:=k) ad tS rfl (hS j hj) (hST j hj)) (lB (PO (n:=(N j-m)) (m:=m) (F:=(λι w v=>ι<(N j-m)->ah w v 0 k)) (G:=(λι w v=>ah w v ((b ι*c j)) k)) (F':=(λι w v=>ah w v (sB b (c j) (N j-m) ι) k)) (λ_ _ _ _ g h=>ah.kp h g) ad ad (λi w v hi h=>by show ah w v (sB b (c j) (N j-m) i) k;rw [PN hi];exact h hi) (λi w v _ h=>by show ah w v (sB b (c j) (N j-m) ((N j-m)+i)) k;rw [CA];exact h) (λ_ _ _ h=>ah.dQ h) rfl) (lB (PM (q:=a j) (r:=sB b (c j) (N j-m)) (n:=N j) (m:=(N j-m)+m) (k:=k) (l:=k) (K:=k) (N:=N (j+1)) ad (λ_ _ h=>aA.rw (e:=57) (sz:=4) (F:=(λι w v=>ah w v (sB b (c j) (N j-m) ι) k)) h) rfl (hSB j hj) (hSt j hj) (λi _=>by rw [hD j hj i];exact hDB j hj i (by omega)) (by simp only [hD j hj];exact hDN j hj)) au))))))))))))))))))))))))))))⟩)
   (by
   obtain ⟨j,rfl⟩:∃j,j=R:=⟨R,rfl⟩;have h4:=hlt;have h5:=hN j;exact (gu (λ_ _ _ h=>Rw.sK (sz:=4) (n:=(N j)) (F:=(Df (a j) k)) h) (lB (eH (n:=(N j)) underlying38 ad rfl) (lB (aM (F:=(Df b l)) underlying38 ad rfl) (lB (thF ad ad) au)))))
   (poC (λ_ _ h=>(λh=>h) h) (poC (λ_ _ h=>(λh=>h) h) poN))) (lB (eS [1] (mV (q:=(λι=>Q R ι)) (n:=L) (k:=k) (λ_ _ h=>aA.rw h) rfl)) au)))))))))))
  (aP [.fact 0 (.one (.s)),.fact 1 (.one (.s))] ⟨Rw.Is 4 (Df (a 0) k) (N 0),Rw.Is 4 (Df b l) m,trivial⟩) aV
def rq (x b:Nat->Rat) (n m:Nat):Nat->Nat->Rat
 | 0,p=>x p
 | j+1,p=>rq x b n m j p-(if m-1-j<=p then rq x b n m j (m-1-j+n) / b n*b (p-(m-1-j)) else 0)
def rqQ (x b:Nat->Rat) (n m p:Nat):Rat:=if p<m then rq x b n m (m-1-p) (p+n) / b n else 0
def bc (x b:Nat->Rat) (n n0:Nat):Nat->(Nat->Rat)×Nat×(Nat->Rat)
 | 0=>(x,n0,λ_=>0)
 | j+1=>(dX (bc x b n n0 j).1 (bc x b n n0 j).2.1 (sB b ((bc x b n n0 j).1 ((bc x b n n0 j).2.1-1) / b n) ((bc x b n n0 j).2.1-(n+1))) ((bc x b n n0 j).2.1-(n+1)+(n+1)),
   tl (λi=>(dX (bc x b n n0 j).1 (bc x b n n0 j).2.1 (sB b ((bc x b n n0 j).1 ((bc x b n n0 j).2.1-1) / b n) ((bc x b n n0 j).2.1-(n+1))) ((bc x b n n0 j).2.1-(n+1)+(n+1)) i).num) (max (bc x b n n0 j).2.1 ((bc x b n n0 j).2.1-(n+1)+(n+1))),
   λi=>if i=(bc x b n n0 j).2.1-(n+1) then (bc x b n n0 j).1 ((bc x b n n0 j).2.1-1) / b n else (bc x b n n0 j).2.2 i)
section
variable {x:Nat->Rat}{n0 t:Nat}
theorem CI (q:Rat):0 / q=0:=by rw [Rat.div_def,Rat.zero_mul]
theorem CJ:∀{k},(∀s,t<=s->s<t+k->rq x b n m t (m-1-s+n)=0)->∀p,rq x b n m (t+k) p=rq x b n m t p
 | 0,_,_=>rfl
 | k+1,h,p=>by have ih:=CJ (k:=k) λs h1 _=>h s h1 (by omega);show rq x b n m (t+k) p-(if m-1-(t+k)<=p then rq x b n m (t+k) (m-1-(t+k)+n) / b n*b (p-(m-1-(t+k))) else 0)=_;rw [ih,ih,h (t+k) (by omega) (by omega),CI,Rat.zero_mul];split <;> rw [Rat.sub_eq_add_neg,Rat.neg_zero,Rat.add_zero]
theorem sL {q:Rat}:q.num=0 ↔ q=0:=Rat.num_eq_zero
theorem CK {a:Nat->Rat} (hb:∀i,n<i->b i=0) (hN:n+1<=N) (h:∀p,de N a p=rq x b n m t p) (p:Nat) (ht:m-1-t=N-(n+1):=by omega):dX a N (sB b (a (N-1) / b n) (N-(n+1))) (N-(n+1)+(n+1)) p=rq x b n m (t+1) p:=by
 have h1:=h (N-1);rw [de,if_pos (by omega)] at h1;rw [dX,h];show _=rq x b n m t p-(if m-1-t<=p then rq x b n m t (m-1-t+n) / b n*b (p-(m-1-t)) else 0);rw [ht,show N-(n+1)+n=N-1 by omega,<- h1,de,sB];congr 1;by_cases h2:N-(n+1)<=p
 ·rw [if_pos h2];by_cases h3:p<N-(n+1)+(n+1)
  ·rw [if_pos h3,if_neg (by omega),Rat.mul_comm]
  ·rw [if_neg h3,hb (p-(N-(n+1))) (by omega),Rat.mul_zero]
 ·rw [if_neg h2,if_pos (by omega),if_pos (by omega)]
theorem CL (hx:∀i,n0<=i->x i=0) (hx0:0<n0->x (n0-1)≠0) (hb:∀i,n<i->b i=0) (hb0:b n≠0):∀j,(∀i,i<j->n+1<=(bc x b n n0 i).2.1)->
  (bc x b n n0 j).2.1+j<=n0∧(∀p,de (bc x b n n0 j).2.1 (bc x b n n0 j).1 p=rq x b n (n0-n) (min (n0-(bc x b n n0 j).2.1) (n0-n)) p)∧(0<(bc x b n n0 j).2.1->(bc x b n n0 j).1 ((bc x b n n0 j).2.1-1)≠0) ∧
  (∀p,(bc x b n n0 j).2.2 p=if n0-n-min (n0-(bc x b n n0 j).2.1) (n0-n)<=p then rqQ x b n (n0-n) p else 0)
 | 0,_=>by
  have key:∀p,de n0 x p=x p:=λp=>by
   unfold de;split
   ·rfl
   ·exact (hx p (by omega)).symm
  have e0:min (n0-n0) (n0-n)=0:=by omega
  refine ⟨Nat.le_refl _,λp=>?_,hx0,λp=>?_⟩
  ·show de n0 x p=rq x b n (n0-n) (min (n0-n0) (n0-n)) p;rw [e0];exact key p
  ·show (0:Rat)=if n0-n-min (n0-n0) (n0-n)<=p then rqQ x b n (n0-n) p else 0
   rw [e0,rqQ];split
   ·rw [if_neg (by omega)]
   ·rfl
 | j+1,hj=>by
  obtain ⟨i1,i2,i3,i4⟩:=CL hx hx0 hb hb0 j λi hi=>hj i (by omega);have hN:=hj j (by omega);obtain ⟨N,hNe⟩:∃N,(bc x b n n0 j).2.1=N:=⟨_,rfl⟩;obtain ⟨N',CM⟩:∃N,(bc x b n n0 (j+1)).2.1=N:=⟨_,rfl⟩;obtain ⟨a,ha⟩:∃a,(bc x b n n0 j).1=a:=⟨_,rfl⟩;obtain ⟨a',ha'⟩:∃a,(bc x b n n0 (j+1)).1=a:=⟨_,rfl⟩;have hT:N'=tl (λi=>(a' i).num) N:=by rw [<- CM,<- ha',<- hNe];show tl _ (max (bc x b n n0 j).2.1 ((bc x b n n0 j).2.1-(n+1)+(n+1)))=_;rw [show max (bc x b n n0 j).2.1 ((bc x b n n0 j).2.1-(n+1)+(n+1))=(bc x b n n0 j).2.1 by omega];rfl
  have hQ:∀p,(bc x b n n0 (j+1)).2.2 p=if p=N-(n+1) then a (N-1) / b n else (bc x b n n0 j).2.2 p:=λp=>by rw [<- hNe,<- ha];rfl
  have hd:∀p,a' p=dX a N (sB b (a (N-1) / b n) (N-(n+1))) (N-(n+1)+(n+1)) p:=λp=>by rw [<- ha',<- hNe,<- ha];rfl
  rw [hNe] at i1 i2 i3 i4 hN;rw [ha] at i2 i3;rw [CM,ha'];have hm0:min (n0-N) (n0-n)=n0-N:=by omega
  rw [hm0] at i2 i4;have h5:∀p,a' p=rq x b n (n0-n) (n0-N+1) p:=λp=>by rw [hd];exact CK hb hN i2 p
  have hout:∀p,N<=p->a' p=0:=λp hp=>by rw [hd,dX,de,de,if_neg (by omega),if_neg (by omega)];exact Rat.sub_self
  have htop:a' (N-1)=0:=by rw [hd,dX,de,de,if_pos (by omega),if_pos (by omega),sB,if_neg (by omega),show N-1-(N-(n+1))=n by omega,Rat.mul_comm,Rat.div_mul_cancel hb0];exact Rat.sub_self
  have hle:=bg (λi=>(a' i).num) N;have hlt:N'<N:=by
   rcases Nat.lt_or_ge N' N with h | h
   ·exact h
   ·have h1:=fG (λi=>(a' i).num) N (by omega);rw [<- hT,show N'=N by omega] at h1;exact absurd (congrArg Rat.num htop) h1
  have hz:∀p,N'<=p->a' p=0:=λp hp=>by
   rcases Nat.lt_or_ge p N with h | h
   ·exact sL.1 (gH (λi=>(a' i).num) N p (by omega) h)
   ·exact hout p h
  have hup:∀p,de N' a' p=a' p:=λp=>by
   unfold de;split
   ·rfl
   ·exact (hz p (by omega)).symm
  have hsk:∀t',n0-N+1<=t'->t'<=n0-N'->t'<=n0-n->∀p,rq x b n (n0-n) t' p=a' p:=λt' h1 h2 h3 p=>by obtain ⟨k,rfl⟩:=Nat.le.dest h1;rw [CJ (λs h4 h6=>?_) p,h5];rw [<- h5];exact hz _ (by omega)
  have hl0:n0-N+1<=min (n0-N') (n0-n):=by omega
  refine ⟨by omega,λp=>?_,λh=>?_,λp=>?_⟩
  ·rw [hup,hsk _ hl0 (by omega) (by omega)]
  ·have h1:=fG (λi=>(a' i).num) N (by omega);rw [<- hT] at h1;exact λe=>h1 (congrArg Rat.num e)
  ·rw [hQ,i4];by_cases h1:p=N-(n+1)
   ·rw [if_pos h1,if_pos (by omega),rqQ,if_pos (by omega)];have h2:=i2 (N-1);rw [de,if_pos (by omega)] at h2;rw [h2,show n0-n-1-p=n0-N by omega,show p+n=N-1 by omega]
   ·rw [if_neg h1];by_cases h2:n0-n-(n0-N)<=p
    ·rw [if_pos h2,if_pos (by omega)]
    ·rw [if_neg h2];by_cases h3:n0-n-min (n0-N') (n0-n)<=p
     ·rw [if_pos h3,rqQ,if_pos (by omega),hsk (n0-n-1-p) (by omega) (by omega) (by omega),hz _ (by omega),CI]
     ·rw [if_neg h3]
end
section
variable {z y:Nat->Int}{kz ky:Nat}{c:Int}
theorem sM (hy:y n=c) (hc:c≠0):∀j p,rq (λi=>((z i:Int):Rat)) (λi=>((y i:Int):Rat)) n m j p*((c ^ j:Int):Rat)=((mW z y n m c j p:Int):Rat)
 | 0,p=>by show ((z p:Int):Rat)*((c ^ 0:Int):Rat)=((z p:Int):Rat);rw [Int.pow_zero];exact Rat.mul_one _
 | j+1,p=>by
  have h1:=sM hy hc j p;have h2:=sM hy hc j (m-1-j+n);have hc':((c:Int):Rat)≠0:=λe=>hc (by exact_mod_cast e);rw [mW];show (rq (λi=>((z i:Int):Rat)) (λi=>((y i:Int):Rat)) n m j p-(if m-1-j<=p then rq (λi=>((z i:Int):Rat)) (λi=>((y i:Int):Rat)) n m j (m-1-j+n) / ((y n:Int):Rat)*((y (p-(m-1-j)):Int):Rat) else 0))*((c ^ (j+1):Int):Rat)=_;rw [hy,Rat.intCast_sub,Rat.intCast_mul,Int.pow_succ,Rat.intCast_mul,<- h1];have h3:=Rat.div_mul_cancel (a:=rq (λi=>((z i:Int):Rat)) (λi=>((y i:Int):Rat)) n m j (m-1-j+n)) hc';split
  ·rw [Rat.intCast_mul,<- h2,<- h3];rw [h3];grind
  ·rw [Rat.intCast_zero];grind
theorem CN {q:Rat}{v:Int} (hv:v≠0) (h:q*((v:Int):Rat)=((u:Int):Rat)) (hu:Bd u.natAbs i) (hv':Bd v.natAbs j):Bd q.num.natAbs i∧Bd q.den j:=by
 have hv2:((v:Int):Rat)≠0:=λe=>hv (by exact_mod_cast e);have e:q=Rat.divInt u v:=by rw [Rat.divInt_eq_div,<- h,Rat.div_def,Rat.mul_assoc,Rat.mul_inv_cancel _ hv2,Rat.mul_one]
 rw [e,Rat.num_divInt,Rat.den_divInt,if_neg hv];refine ⟨hu.le (Nat.le_trans (Int.natAbs_ediv_le_natAbs _ _) ?_),hv'.le (Nat.div_le_self _ _)⟩;rw [Int.natAbs_mul,Int.natAbs_sign_of_ne_zero hv,Nat.one_mul];exact Nat.le_refl _
theorem qm (hz:∀p,Bd (z p).natAbs kz) (hy:∀p,Bd (y p).natAbs ky) (hc:Bd c.natAbs ky):∀j p,Bd (mW z y n m c j p).natAbs (kz+j*(ky+1))
 | 0,p=>(hz p).more (by omega)
 | j+1,p=>by
  rw [mW,Nat.succ_mul];split
  ·exact (Bd.PY (qm hz hy hc j p) hc (qm hz hy hc j _) (hy _)).more (by omega)
  ·rw [Int.sub_zero,Int.natAbs_mul];exact (Bd.mul (qm hz hy hc j p) hc).more (by omega)
theorem PZ (hyn:y n=c) (hc0:c≠0) (hz:∀p,Bd (z p).natAbs kz) (hy:∀p,Bd (y p).natAbs ky) (j p:Nat):Bd (rq (λi=>((z i:Int):Rat)) (λi=>((y i:Int):Rat)) n m j p).num.natAbs (kz+j*(ky+1))∧Bd (rq (λi=>((z i:Int):Rat)) (λi=>((y i:Int):Rat)) n m j p).den (j*ky+1):=by have hc:Bd c.natAbs ky:=hyn▸hy n;exact CN (Int.pow_ne_zero hc0) (sM hyn hc0 j p) (qm hz hy hc j p) (by rw [Int.natAbs_pow];exact Bd.qn hc j)
theorem Qa (hyn:y n=c) (hc0:c≠0) (hz:∀p,Bd (z p).natAbs kz) (hy:∀p,Bd (y p).natAbs ky) (j p:Nat) (t:Int) (ht:Bd t.natAbs ky):Bd (rq (λi=>((z i:Int):Rat)) (λi=>((y i:Int):Rat)) n m j p / ((c:Int):Rat)*((t:Int):Rat)).num.natAbs (kz+j*(ky+1)+ky)∧Bd (rq (λi=>((z i:Int):Rat)) (λi=>((y i:Int):Rat)) n m j p / ((c:Int):Rat)*((t:Int):Rat)).den ((j+1)*ky+1):=by have hc:Bd c.natAbs ky:=hyn▸hy n;have hc':((c:Int):Rat)≠0:=λe=>hc0 (by exact_mod_cast e);have h2:=sM (z:=z) (m:=m) hyn hc0 j p;refine CN (u:=mW z y n m c j p*t) (v:=c ^ (j+1)) (Int.pow_ne_zero hc0) ?_ (by rw [Int.natAbs_mul];exact Bd.mul (qm hz hy hc j p) ht) (by rw [Int.natAbs_pow];exact Bd.qn hc (j+1));rw [Int.pow_succ,Rat.intCast_mul,Rat.intCast_mul,<- h2];have h3:=Rat.div_mul_cancel (a:=rq (λi=>((z i:Int):Rat)) (λi=>((y i:Int):Rat)) n m j p) hc';grind
end
theorem CO {f:Nat->Int} (hN:N<=n) (h0:∀p,N<=p->p<n->f p=0) (h1:0<N->f (N-1)≠0):tl f n=N:=by
 have hle:=bg f n;refine Nat.le_antisymm ?_ ?_
 ·rcases Nat.lt_or_ge N (tl f n) with h | h
  ·exact absurd (h0 _ (by omega) (by omega)) (fG f n (by omega))
  ·exact h
 ·rcases Nat.lt_or_ge (tl f n) N with h | h
  ·exact absurd (gH f n (N-1) (by omega) (by omega)) (h1 (by omega))
  ·exact h
theorem CP (N:Nat->Nat) (m:Nat):∀k,(∃R,(∀j,j<R->m<=N j)∧N R<m)∨∀j,j<k->m<=N j
 | 0=>.inr λ_ h=>by omega
 | k+1=>by
  rcases CP N m k with h | h
  ·exact .inl h
  ·rcases Nat.lt_or_ge (N k) m with h1 | h1
   ·exact .inl ⟨k,h,h1⟩
   ·refine .inr λj hj=>?_;rcases Nat.lt_or_ge j k with h2 | h2
    ·exact h j h2
    ·rw [show j=k by omega];exact h1
section
variable {Φ:PH}{p q x r n0 kz ky kx kb:Nat}{z y:Nat->Int}{Z Y:Nat->Rat}
theorem Qb (hp:Im Φ p (Rw 4 (Df Z kx) n0)) (hq:Im Φ q (Rw 4 (Df Y kb) (n+1))) (hZ:Z=λi=>((z i:Int):Rat)) (hY:Y=λi=>((y i:Int):Rat))
  (hx:Φ x=Rw 4 (Df (rqQ Z Y n (n0-n)) K) (tl (λi=>(rqQ Z Y n (n0-n) i).num) (n0-n))) (hr:Φ r=Rw 4 (Df (rq Z Y n (n0-n) (n0-n)) K) (tl (λi=>(rq Z Y n (n0-n) (n0-n) i).num) n))
  (hn:n<=900) (hn0:n0<=1000) (hkx:kx<=K) (hkb:kb<=1000) (hK:K<=1000) (hbz:∀i,Bd (z i).natAbs kz) (hby:∀i,Bd (y i).natAbs ky) (hKb:kz+(n0-n+1)*(ky+1)<=K) (hz0:∀i,n0<=i->z i=0) (hzt:0<n0->z (n0-1)≠0) (hy0:∀i,n<i->y i=0) (hyt:y n≠0) :
  aj Φ prog ⟨149,[.fact p,.fact q],[oS x,oS r],true⟩:=by
 have cz:∀{t:Int},t≠0->((t:Int):Rat)≠0:=λh e=>h (by exact_mod_cast e);have c0:∀{t:Int},t=0->((t:Int):Rat)=0:=λh=>by rw [h];rfl
 have hYn:Y n≠0:=by rw [hY];exact cz hyt
 have hY0:∀i,n<i->Y i=0:=λi hi=>by rw [hY];exact c0 (hy0 i hi)
 have hinv:=CL (x:=Z) (b:=Y) (n:=n) (n0:=n0) (λi hi=>by rw [hZ];exact c0 (hz0 i hi)) (λh=>by rw [hZ];exact cz (hzt h)) hY0 hYn;obtain ⟨R,hge,hlt⟩:∃R,(∀j,j<R->n+1<=(bc Z Y n n0 j).2.1)∧(bc Z Y n n0 R).2.1<n+1:=by
  rcases CP (λj=>(bc Z Y n n0 j).2.1) (n+1) (n0+1) with h | h
  ·exact h
  ·have h1:=(hinv n0 λi _=>h i (by omega)).1;have h2:=h n0 (by omega);omega
 have hstep:∀j,j<R->(bc Z Y n n0 j).2.1+j<=n0∧n+1<=(bc Z Y n n0 j).2.1∧(bc Z Y n n0 j).1 ((bc Z Y n n0 j).2.1-1) / Y n=rqQ Z Y n (n0-n) ((bc Z Y n n0 j).2.1-(n+1))∧(bc Z Y n n0 j).1 ((bc Z Y n n0 j).2.1-1) / Y n≠0∧∀p,(bc Z Y n n0 (j+1)).1 p=rq Z Y n (n0-n) (n0-(bc Z Y n n0 j).2.1+1) p:=λj hj=>by
  obtain ⟨i1,i2,i3,-⟩:=hinv j λi hi=>hge i (by omega);have h1:=hge j hj;rw [show min (n0-(bc Z Y n n0 j).2.1) (n0-n)=n0-(bc Z Y n n0 j).2.1 by omega] at i2;have h2:=i2 ((bc Z Y n n0 j).2.1-1);rw [de,if_pos (by omega)] at h2;refine ⟨i1,h1,?_,λe=>i3 (by omega) ?_,λp=>CK hY0 h1 i2 p⟩
  ·rw [rqQ,if_pos (by omega),h2,show n0-n-1-((bc Z Y n n0 j).2.1-(n+1))=n0-(bc Z Y n n0 j).2.1 by omega,show (bc Z Y n n0 j).2.1-(n+1)+n=(bc Z Y n n0 j).2.1-1 by omega]
  ·have h3:=Rat.div_mul_cancel (a:=(bc Z Y n n0 j).1 ((bc Z Y n n0 j).2.1-1)) hYn;rw [e,Rat.zero_mul] at h3;exact h3.symm
 have hbq:∀j p,j<=n0-n->Bd (rq Z Y n (n0-n) j p).num.natAbs K∧Bd (rq Z Y n (n0-n) j p).den K:=λj p hj=>by
  have h1:j*(ky+1)<=(n0-n+1)*(ky+1):=Nat.mul_le_mul_right _ (by omega);have h2:(j+1)*(ky+1)<=(n0-n+1)*(ky+1):=Nat.mul_le_mul_right _ (by omega);have h3:j*ky+1<=(j+1)*(ky+1):=by rw [Nat.succ_mul,Nat.mul_succ];omega
  have h:=PZ (z:=z) (y:=y) (n:=n) (m:=n0-n) rfl hyt hbz hby j p;rw [hZ,hY];exact ⟨h.1.more (by omega),h.2.more (by omega)⟩
 have hbc:∀j p (t:Int),j<n0-n->Bd t.natAbs ky->Bd (rq Z Y n (n0-n) j p / Y n*((t:Int):Rat)).num.natAbs K∧Bd (rq Z Y n (n0-n) j p / Y n*((t:Int):Rat)).den K:=λj p t hj ht=>by
  have h2:(j+1)*(ky+1)<=(n0-n+1)*(ky+1):=Nat.mul_le_mul_right _ (by omega);have h3:j*(ky+1)+ky+1=(j+1)*(ky+1):=by rw [Nat.succ_mul];omega
  have h4:(j+1)*ky+1<=(j+1)*(ky+1):=by rw [Nat.mul_succ];omega
  have h:=Qa (z:=z) (y:=y) (n:=n) (m:=n0-n) rfl hyt hbz hby j p t ht;rw [hZ,hY];exact ⟨h.1.more (by omega),h.2.more (by omega)⟩
 have Qc:Bd (1:Int).natAbs ky:=by
  show 1<4294967296 ^ ky;rcases Nat.eq_zero_or_pos ky with h | h
  ·have:=hby n;rw [h] at this;have h2:(y n).natAbs<4294967296 ^ 0:=this;rw [Nat.pow_zero] at h2;exact absurd (Int.natAbs_eq_zero.1 (by omega)) hyt
  ·exact Nat.one_lt_pow (by omega) (by omega)
 have hqc:∀j,j<n0-n->∀p,Bd (rq Z Y n (n0-n) j p / Y n).num.natAbs K∧Bd (rq Z Y n (n0-n) j p / Y n).den K:=λj hj p=>by have h:=hbc j p 1 hj Qc;rw [show (((1:Int):Int):Rat)=1 from rfl,Rat.mul_one] at h;exact h
 have hcj:∀j,j<R->∃t,t<n0-n∧(bc Z Y n n0 j).1 ((bc Z Y n n0 j).2.1-1) / Y n=rq Z Y n (n0-n) t (n0-n-1-t+n) / Y n:=λj hj=>by obtain ⟨i1,i2,i3,-⟩:=hstep j hj;rw [rqQ,if_pos (by omega)] at i3;exact ⟨n0-n-1-((bc Z Y n n0 j).2.1-(n+1)),by omega,by rw [i3,show n0-n-1-(n0-n-1-((bc Z Y n n0 j).2.1-(n+1)))=(bc Z Y n n0 j).2.1-(n+1) by omega]⟩
 have hyc:∀i j,j<R->Bd (Y i*((bc Z Y n n0 j).1 ((bc Z Y n n0 j).2.1-1) / Y n)).num.natAbs K∧Bd (Y i*((bc Z Y n n0 j).1 ((bc Z Y n n0 j).2.1-1) / Y n)).den K:=λi j hj=>by obtain ⟨t,ht,e⟩:=hcj j hj;rw [e,Rat.mul_comm,show Y i=((y i:Int):Rat) by rw [hY]];exact hbc t _ (y i) ht (hby i)
 have hK1:1<=K:=by have:(n0-n+1)*(ky+1)=(n0-n)*(ky+1)+(ky+1):=Nat.succ_mul ..;omega
 obtain ⟨f1,f2,f3,f4⟩:=hinv R hge;have fm:min (n0-(bc Z Y n n0 R).2.1) (n0-n)=n0-n:=by omega
 rw [fm] at f2 f4;have hQ:∀i,(bc Z Y n n0 R).2.2 i=rqQ Z Y n (n0-n) i:=λi=>by rw [f4,if_pos (by omega)]
 have hN:tl (λi=>(rq Z Y n (n0-n) (n0-n) i).num) n=(bc Z Y n n0 R).2.1:=by
  refine CO (by omega) (λp h1 _=>?_) λh=>?_
  ·simp only [<- f2,de];rw [if_neg (by omega)];rfl
  ·simp only [<- f2,de];rw [if_pos (by omega)];exact λe=>f3 h (sL.1 e)
 refine aU (PW (a:=λj=>(bc Z Y n n0 j).1) (N:=λj=>(bc Z Y n n0 j).2.1) (b:=Y) (c:=λj=>(bc Z Y n n0 j).1 ((bc Z Y n n0 j).2.1-1) / Y n) (Q:=λj=>(bc Z Y n n0 j).2.2) (m:=n+1) (R:=R) (k:=K) (l:=kb) (L:=n0-n)
  ?_ hK hkb hK1 hge hlt ?_ ?_ hYn (λ_ _=>rfl) ?_ (λj hj i _=>hyc i j hj) ?_ ?_ ?_ (λ_ _ _=>rfl) ?_ (λ_ _=>rfl) (λ_=>rfl) ?_ ?_)
  ⟨λw v h=>Rw.to (sz:=4) (n:=n0) (hp w v h) λ_ _ _ _ h=>ah.more h hkx,hq,trivial⟩ ⟨⟨rfl,⟨rfl,rfl,λw v h=>?_⟩,trivial⟩,⟨rfl,⟨rfl,rfl,λw v h=>?_⟩,trivial⟩,trivial⟩
 ·intro j;have h:∀j,(bc Z Y n n0 j).2.1<=max n0 (n+1):=λj=>by
   induction j with
   | zero=>exact Nat.le_max_left _ _
   | succ j ih=>exact Nat.le_trans (bg _ _) (by omega)
  exact Nat.le_trans (h j) (by omega)
 ·show (if n+1<=n0 then n0-(n+1)+1 else 0)=n0-n;split <;> omega
 ·intro j hj;obtain ⟨i1,i2,-⟩:=hstep j hj;show (bc Z Y n n0 j).2.1-(n+1)<n0-n;omega
 ·intro j hj;obtain ⟨t,ht,e⟩:=hcj j hj;show Bd ((bc Z Y n n0 j).1 ((bc Z Y n n0 j).2.1-1) / Y n).num.natAbs K∧Bd ((bc Z Y n n0 j).1 ((bc Z Y n n0 j).2.1-1) / Y n).den K;rw [e];exact hqc t ht _
 ·intro j hj;refine CO (Nat.le_refl _) (λ_ _ _=>by omega) λ_ e=>?_;rcases Rat.mul_eq_zero.1 (sL.1 e) with h | h
  ·exact hYn h
  ·exact (hstep j hj).2.2.2.1 h
 ·intro j hj i _;show Bd (sB Y ((bc Z Y n n0 j).1 ((bc Z Y n n0 j).2.1-1) / Y n) _ i).num.natAbs K∧Bd (sB Y ((bc Z Y n n0 j).1 ((bc Z Y n n0 j).2.1-1) / Y n) _ i).den K;unfold sB;split
  ·exact ⟨Qd K,Nat.one_lt_pow (by omega) (by omega)⟩
  ·exact hyc _ j hj
 ·intro j hj _;show (sB Y ((bc Z Y n n0 j).1 ((bc Z Y n n0 j).2.1-1) / Y n) ((bc Z Y n n0 j).2.1-(n+1)) ((bc Z Y n n0 j).2.1-(n+1)+(n+1)-1)).num≠0;rw [show (bc Z Y n n0 j).2.1-(n+1)+(n+1)-1=(bc Z Y n n0 j).2.1-(n+1)+n by omega,CA];intro e;rcases Rat.mul_eq_zero.1 (sL.1 e) with h | h
  ·exact hYn h
  ·exact (hstep j hj).2.2.2.1 h
 ·intro j hj i _;obtain ⟨i1,i2,-,-,i5⟩:=hstep j hj;show Bd ((bc Z Y n n0 (j+1)).1 i).num.natAbs K∧Bd ((bc Z Y n n0 (j+1)).1 i).den K;rw [i5 i];exact hbq _ _ (by omega)
 ·exact λ_ _=>if_pos rfl
 ·exact λ_ _ i h=>if_neg h
 ·have e:(bc Z Y n n0 R).2.2=rqQ Z Y n (n0-n):=funext hQ;rw [hx,<- e];exact h
 ·rw [hr,hN];have h:Rw 4 (Df ((bc Z Y n n0 R).1) K) (bc Z Y n n0 R).2.1 w v:=h;exact Rw.to h λi w v hi h=>by have h1:=f2 i;rw [de,if_pos hi] at h1;show ah w v _ K;rw [<- h1];exact h
theorem Qe {QL RL:List Int} (hp:Im Φ p (Rw 4 (Zf z kx) n0)) (hq:Im Φ q (Rw 4 (Zf y kb) (n+1)))
  (hx:Φ x=λw v=>Rw 4 (λi w v=>ah w v ((ae QL i:Int):Rat) K) QL.length w v) (hr:Φ r=λw v=>Rw 4 (λi w v=>ah w v ((ae RL i:Int):Rat) K) RL.length w v)
  (hbz:∀i,Bd (z i).natAbs kz) (hby:∀i,Bd (y i).natAbs ky) (hz0:∀i,n0<=i->z i=0) (hzt:0<n0->z (n0-1)≠0) (hy0:∀i,n<i->y i=0)
  (hDQ:tl (λi=>(rqQ (λi=>((z i:Int):Rat)) (λi=>((y i:Int):Rat)) n (n0-n) i).num) (n0-n)=QL.length∧∀i,i<QL.length->rqQ (λi=>((z i:Int):Rat)) (λi=>((y i:Int):Rat)) n (n0-n) i=((ae QL i:Int):Rat))
  (hDR:tl (λi=>(rq (λi=>((z i:Int):Rat)) (λi=>((y i:Int):Rat)) n (n0-n) (n0-n) i).num) n=RL.length∧∀i,i<RL.length->rq (λi=>((z i:Int):Rat)) (λi=>((y i:Int):Rat)) n (n0-n) (n0-n) i=((ae RL i:Int):Rat)) (hn:n<=900:=by omega) (hn0:n0<=1000:=by omega) (hkx:kx<=K:=by omega) (hkb:kb<=1000:=by omega) (hK:K<=1000:=by omega) (hKb:kz+(n0-n+1)*(ky+1)<=K:=by omega) (hyt:y n≠0:=by decide) :
  aj Φ prog ⟨149,[.fact p,.fact q],[oS x,oS r],true⟩:=
 aU (Qb (Φ:=ph [Rw 4 (Zf z kx) n0,Rw 4 (Zf y kb) (n+1),λw v=>Rw 4 (λi w v=>ah w v (rqQ (λi=>((z i:Int):Rat)) (λi=>((y i:Int):Rat)) n (n0-n) i) K) (tl (λi=>(rqQ (λi=>((z i:Int):Rat)) (λi=>((y i:Int):Rat)) n (n0-n) i).num) (n0-n)) w v,λw v=>Rw 4 (λi w v=>ah w v (rq (λi=>((z i:Int):Rat)) (λi=>((y i:Int):Rat)) n (n0-n) (n0-n) i) K) (tl (λi=>(rq (λi=>((z i:Int):Rat)) (λi=>((y i:Int):Rat)) n (n0-n) (n0-n) i).num) n) w v]) (p:=0) (q:=1) (x:=2) (r:=3) ad ad rfl rfl rfl rfl hn hn0 hkx hkb hK hbz hby hKb hz0 hzt hy0 hyt)
  ⟨hp,hq,trivial⟩ ⟨⟨rfl,⟨rfl,rfl,λw v h=>by
   have h:Rw 4 (λi w v=>ah w v (rqQ (λi=>((z i:Int):Rat)) (λi=>((y i:Int):Rat)) n (n0-n) i) K) (tl (λi=>(rqQ (λi=>((z i:Int):Rat)) (λi=>((y i:Int):Rat)) n (n0-n) i).num) (n0-n)) w v:=h;rw [hx];exact Rw.to (Rw.len h hDQ.1) λi _ _ hi h=>ah.eq h (hDQ.2 i hi)⟩,trivial⟩,⟨rfl,⟨rfl,rfl,λw v h=>by
   have h:Rw 4 (λi w v=>ah w v (rq (λi=>((z i:Int):Rat)) (λi=>((y i:Int):Rat)) n (n0-n) (n0-n) i) K) (tl (λi=>(rq (λi=>((z i:Int):Rat)) (λi=>((y i:Int):Rat)) n (n0-n) (n0-n) i).num) n) w v:=h;rw [hr];exact Rw.to (Rw.len h hDR.1) λi _ _ hi h=>ah.eq h (hDR.2 i hi)⟩,trivial⟩,trivial⟩
end
def qs (q:Nat->Rat) (dL wz:Nat->Int) (n k kd kg K N:Nat) (t u:Rat):List WP:=[Rw 4 (Df q k) n,Nz n,Jw (1:Int) 2,Nz n,Jw (dL n) kd,Nz n,Jw (aT wz n:Int) kg,Dw t (kg+kd+2),Jw t.num (kg+kd+2),Jw (t.den:Int) (kg+kd+2),Nz n,Nz (n-1),Ptr 4 (Dw ((q (n-1))) k),Ptr 2 (Jw (((q (n-1))).num) k),λw v=>Ptr 1 (λ_ v=>v = .agg #[.bool false]) w v,Dw (aH 1 1) 6,Jw ((aH 1 1).num) 6,Jw ((aH 1 1).den:Int) 6,Dw u (2*(6+(kg+kd+2))+2),Jw u.num (2*(6+(kg+kd+2))+2),Jw (u.den:Int) (2*(6+(kg+kd+2))+2),λw v=>Rw 4 (λι w v=>ah w v (((q ι)*u)) K) N w v]
def Rn (q:Nat->Rat) (dL wz:Nat->Int) (n k kd kg:Nat) (i:Nat):List WP:=[Nz i,Jw (aT wz i:Int) kg,Ptr 4 (Dw ((q i)) k),Ptr 2 (Jw (((q i)).num) k),Jw (((q i)).num) k,Jw ((((q i)).num)*(dL n)) (k+kd),Ptr 4 (Dw ((q i)) k),Ptr 2 (Jw (((q i)).den:Int) k),Jw (((q i)).den:Int) k,Jw (wz i) (k+kd),Jw (Int.gcd (aT wz i:Int) (wz i):Int) (kg+(k+kd)),Nz (i+1)]
def Dq:bp:=⟨[0,2,3,4,6,9,10,11,13,14,15,16,17,35,36],[(.slot 37,.i),(.cell 14 0,.s),(.cell 14 1,.b)],[(.one 0,22),(.agg [1,2],23)],[.closed (.one (Ai 0)),.closed (.agg [.nl,.cb false])],22,[(23,6)]⟩
def Dr:List Step:=[bQ [22,5] oT (am .lss),bQ [0,22] [oP 24] (adK 38),bQ [24] [oP 25] (ce 57 0),bQ [25] [oD 26] (aQ 55),
   cB 26 [26,4] [oD 27],bQ [0,22] [oP 28] (adK 38),bQ [28] [oP 29] (ce 57 1),bQ [29] [oD 30] (aQ 55),
   cB 85 [27,30] [oD 31],
   cB 84 [23,31] [oD 32],bQ [22,.lit (Ai 1)] [oN 33] (am .add)]
def Rp:List Step:=[bQ [22,5] oF (am .lss)]
def Rq (q:Nat->Rat) (dL:Nat->Int) (k kd:Nat) (j:Nat):List WP:=[Nz j,Jw (dL j) kd,Ptr 4 (Dw ((q j)) k),Ptr 2 (Jw (((q j)).den:Int) k),Jw (((q j)).den:Int) k,Jw ((dL j)*(((q j)).den:Int)) (kd+k),Ptr 4 (Dw ((q j)) k),Ptr 2 (Jw (((q j)).den:Int) k),Jw (((q j)).den:Int) k,Jw (Int.gcd (dL j) (((q j)).den:Int):Int) (kd+k),Jw (dL (j+1)) (kd+k),Nz (j+1)]
def Ds:bp:=⟨[0,2,3,4,9,10,11,13,14,15],[(.slot 16,.i),(.cell 7 0,.s),(.cell 7 1,.b)],[(.one 0,22),(.agg [1,2],23)],[.closed (.one (Ai 0)),.frm 2],22,[(23,4)]⟩
def Dt:List Step:=[bQ [22,3] oT (am .lss),bQ [0,22] [oP 24] (adK 38),bQ [24] [oP 25] (ce 57 1),bQ [25] [oD 26] (aQ 55),
   cB 26 [23,26] [oD 27],bQ [0,22] [oP 28] (adK 38),bQ [28] [oP 29] (ce 57 1),bQ [29] [oD 30] (aQ 55),
   cB 84 [23,30] [oD 31],
   cB 85 [27,31] [oD 32],bQ [22,.lit (Ai 1)] [oN 33] (am .add)]
def Ru:List Step:=[bQ [22,3] oF (am .lss)]
def Rx:List Step:=[bQ [0] [oN 1] (aC 38),bQ [1,.lit (Ai 0)] oF (am .eql),
   cB 24 [.lit (Ai 1)] [oD 2],bQ [0] [oN 3] (aC 38),.loop Ds [(Dt,[.frm 33,.frm 32])] Ru,bQ [0] [oN 5] (aC 38),.loop Dq [(Dr,[.frm 33,.frm 32])] Rp,
   cB 53 [6,4] [⟨.agg [.s,.b,.s,.b],[(0,0,7),(0,2,8),(2,2,9)]⟩],bQ [0] [oN 10] (aC 38),bQ [10,.lit (Ai 1)] [oN 11] (am .sub),bQ [0,11] [oP 12] (adK 38),bQ [12] [oP 13] (ce 57 0),bQ [13] [oP 14] (ce 55 1),bQ [14] oF (aQ 4),
   cB 41 [.lit (Ai 1),.lit (Ai 1)] [⟨.agg [.s,.b,.s,.b],[(0,0,15),(0,2,16),(2,2,17)]⟩],
   cB 152 [15,7] [⟨.agg [.s,.b,.s,.b],[(0,0,18),(0,2,19),(2,2,20)]⟩],
   cB 82 [0,18] [oS 21]]
def Ry:List Out:=[oS 0]
theorem Rz {u:Rat} (hn0:0<n) (hk:k<=1000) (hkd:kd<=1000) (hkg:kg<=1000) (hs:decide ((q (n-1)).num<0)=false) (hd0:1=dL 0) (lH:Bd (dL 0).natAbs kd) (hdL:∀j,j<n->(Int.gcd (dL j) ((q j).den:Int):Int)≠0∧(Int.gcd (dL j) ((q j).den:Int):Int)∣dL j*((q j).den:Int)∧dL j*((q j).den:Int) / (Int.gcd (dL j) ((q j).den:Int):Int)=dL (j+1)∧Bd (dL (j+1)).natAbs kd) (hw:∀i,i<n->((q i).den:Int)∣(q i).num*dL n∧(q i).num*dL n / ((q i).den:Int)=wz i) (hg:∀i,i<=n->Bd (aT wz i:Int).natAbs kg) (ht:(aH (aT wz n:Int) (dL n))=t) (ht0:t≠0) (hu:aH 1 1 / t=u) (hB:∀i,i<n->Bd (q i*u).num.natAbs K∧Bd (q i*u).den K) (hN:tl (λi=>(q i*u).num) n=N) (hn:n<=1000000:=by omega) (hK:K<=400000:=by omega):aj (ph (qs q dL wz n k kd kg K N t u)) prog ⟨128,[0],[⟨.agg [.s,.b,.s,.b],[(0,0,7),(0,2,8),(2,2,9)]⟩,oS 21],true⟩:=adL Ry [⟨.agg [.s,.b,.s,.b],[(0,0,7),(0,2,8),(2,2,9)]⟩,oS 21] Rx func128 (by kernel_rfl) (lB (aM (F:=(Df q k)) underlying38 ad rfl) (lB (iL ad) (lB (fP (z:=1) rfl rfl) (lB (aM (F:=(Df q k)) underlying38 ad rfl) (bN (counted n (λj=>ph (qs q dL wz n k kd kg K N t u ++ Rq q dL k kd j)) (λ_=>0) (λ_ p hp=>bO (show p<(qs q dL wz n k kd kg K N t u).length from hp)) ⟨λ_=>rfl,λ_ _ h=>ai.dm (ai.eI h hd0) lH,trivial⟩ (λj hj=>by
   skip
   exact ⟨(Dt,[.frm 33,.frm 32]),rfl,⟨ad,λ_ _ h=>ai.dm h (hdL j hj).2.2.2,trivial⟩,(lB (bK ad ad) (lB (bw (i:=j) (F:=(Df q k)) underlying38 ad ad rfl) (lB (cf (off:=2) (len:=2) (sz:=4) (F:=Dw ((q j)) k) (G:=Jw (((q j)).den:Int) k) ad (λ_ _ h=>ah.snd' h) rfl) (lB (bT (sz:=2) (F:=Jw (((q j)).den:Int) k) ad (λ_ _ _ g h=>ai.kp h g) (λ_ _ h=>ai.is h) rfl) (lB (dE dD dD rfl rfl) (lB (bw (i:=j) (F:=(Df q k)) underlying38 ad ad rfl) (lB (cf (off:=2) (len:=2) (sz:=4) (F:=Dw ((q j)) k) (G:=Jw (((q j)).den:Int) k) ad (λ_ _ h=>ah.snd' h) rfl) (lB (bT (sz:=2) (F:=Jw (((q j)).den:Int) k) ad (λ_ _ _ g h=>ai.kp h g) (λ_ _ h=>ai.is h) rfl) (lB (ik (kd+k) dD dD rfl rfl) (lB (gi dD dD rfl ((hdL j hj).1) ((hdL j hj).2.1) ((hdL j hj).2.2.1)) (lB (ch ad rfl) au)))))))))))⟩) (lB (tlF ad ad) au)
   (poC (λ_ _ h=>(λh=>h) h) poN)) (lB (aM (F:=(Df q k)) underlying38 ad rfl) (bN (counted n (λi=>ph (qs q dL wz n k kd kg K N t u ++ Rn q dL wz n k kd kg i)) (λ_=>0) (λ_ p hp=>bO (show p<(qs q dL wz n k kd kg K N t u).length from hp)) ⟨λ_=>rfl,λw=>ai.sO w kg,trivial⟩ (λi hi=>by
   skip
   exact ⟨(Dr,[.frm 33,.frm 32]),rfl,⟨ad,λ_ _ h=>ai.dm h (hg (i+1) (by omega)),trivial⟩,(lB (bK ad ad) (lB (bw (i:=i) (F:=(Df q k)) underlying38 ad ad rfl) (lB (cf (off:=0) (len:=2) (sz:=4) (F:=Dw ((q i)) k) (G:=Jw (((q i)).num) k) ad (λ_ _ h=>ah.fst' h) rfl) (lB (bT (sz:=2) (F:=Jw (((q i)).num) k) ad (λ_ _ _ g h=>ai.kp h g) (λ_ _ h=>ai.is h) rfl) (lB (dE dD dD rfl rfl) (lB (bw (i:=i) (F:=(Df q k)) underlying38 ad ad rfl) (lB (cf (off:=2) (len:=2) (sz:=4) (F:=Dw ((q i)) k) (G:=Jw (((q i)).den:Int) k) ad (λ_ _ h=>ah.snd' h) rfl) (lB (bT (sz:=2) (F:=Jw (((q i)).den:Int) k) ad (λ_ _ _ g h=>ai.kp h g) (λ_ _ h=>ai.is h) rfl) (lB (gi dD dD rfl (qt _) ((hw i hi).1) ((hw i hi).2)) (lB (ik (kg+(k+kd)) dD dD rfl rfl) (lB (ch ad rfl) au)))))))))))⟩) (lB (tlF ad ad) au)
   (poC (λ_ _ h=>(λh=>h) h) poN)) (lB (gv dD dD rfl rfl rfl (ht)) (lB (aM (F:=(Df q k)) underlying38 ad rfl) (lB (cO ad rfl) (lB (bw (i:=(n-1)) (F:=(Df q k)) underlying38 ad ad rfl) (lB (cf (off:=0) (len:=2) (sz:=4) (F:=Dw ((q (n-1))) k) (G:=Jw (((q (n-1))).num) k) ad (λ_ _ h=>ah.fst' h) rfl) (lB (cf (off:=1) (len:=1) (sz:=2) (F:=Jw (((q (n-1))).num) k) (G:=λ_ v=>v = .agg #[.bool false]) ad (λ_ _ h=>ai.sP hs h) rfl) (lB (sQ ad) (lB (oz (z:=1) (y:=1) rfl rfl rfl rfl) (lB (qk tS tS rfl rfl rfl (ht0) (hu)) (lB (jk (q:=(λi=>(q i))) (c:=u) (n:=n) (K:=K) ad tS rfl hB hN) au)))))))))))))))))
  (aP [.fact 0 (.one (.s))] ⟨Rw.Is 4 (Df q k) n,trivial⟩) aV
def qu (q:Nat->Rat) (dL wz:Nat->Int) (n k kd kg K N:Nat) (t u:Rat):List WP:=[Rw 4 (Df q k) n,Nz n,Jw (1:Int) 2,Nz n,Jw (dL n) kd,Nz n,Jw (aT wz n:Int) kg,Dw (aH (aT wz n:Int) (dL n)) (kg+kd+2),Jw ((aH (aT wz n:Int) (dL n)).num) (kg+kd+2),Jw ((aH (aT wz n:Int) (dL n)).den:Int) (kg+kd+2),Nz n,Nz (n-1),Ptr 4 (Dw ((q (n-1))) k),Ptr 2 (Jw (((q (n-1))).num) k),λw v=>Ptr 1 (λ_ v=>v = .agg #[.bool true]) w v,Dw t (kg+kd+2),Jw t.num (kg+kd+2),Jw (t.den:Int) (kg+kd+2),Dw (aH 1 1) 6,Jw ((aH 1 1).num) 6,Jw ((aH 1 1).den:Int) 6,Dw u (2*(6+(kg+kd+2))+2),Jw u.num (2*(6+(kg+kd+2))+2),Jw (u.den:Int) (2*(6+(kg+kd+2))+2),λw v=>Rw 4 (λι w v=>ah w v (((q ι)*u)) K) N w v]
def RA (q:Nat->Rat) (dL wz:Nat->Int) (n k kd kg:Nat) (i:Nat):List WP:=[Nz i,Jw (aT wz i:Int) kg,Ptr 4 (Dw ((q i)) k),Ptr 2 (Jw (((q i)).num) k),Jw (((q i)).num) k,Jw ((((q i)).num)*(dL n)) (k+kd),Ptr 4 (Dw ((q i)) k),Ptr 2 (Jw (((q i)).den:Int) k),Jw (((q i)).den:Int) k,Jw (wz i) (k+kd),Jw (Int.gcd (aT wz i:Int) (wz i):Int) (kg+(k+kd)),Nz (i+1)]
def Du:bp:=⟨[0,2,3,4,6,9,10,11,13,14,15,16,17,35,36],[(.slot 37,.i),(.cell 14 0,.s),(.cell 14 1,.b)],[(.one 0,25),(.agg [1,2],26)],[.closed (.one (Ai 0)),.closed (.agg [.nl,.cb false])],25,[(26,6)]⟩
def Dx:List Step:=[bQ [25,5] oT (am .lss),bQ [0,25] [oP 27] (adK 38),bQ [27] [oP 28] (ce 57 0),bQ [28] [oD 29] (aQ 55),
   cB 26 [29,4] [oD 30],bQ [0,25] [oP 31] (adK 38),bQ [31] [oP 32] (ce 57 1),bQ [32] [oD 33] (aQ 55),
   cB 85 [30,33] [oD 34],
   cB 84 [26,34] [oD 35],bQ [25,.lit (Ai 1)] [oN 36] (am .add)]
def RE:List Step:=[bQ [25,5] oF (am .lss)]
def RF (q:Nat->Rat) (dL:Nat->Int) (k kd:Nat) (j:Nat):List WP:=[Nz j,Jw (dL j) kd,Ptr 4 (Dw ((q j)) k),Ptr 2 (Jw (((q j)).den:Int) k),Jw (((q j)).den:Int) k,Jw ((dL j)*(((q j)).den:Int)) (kd+k),Ptr 4 (Dw ((q j)) k),Ptr 2 (Jw (((q j)).den:Int) k),Jw (((q j)).den:Int) k,Jw (Int.gcd (dL j) (((q j)).den:Int):Int) (kd+k),Jw (dL (j+1)) (kd+k),Nz (j+1)]
def Dy:bp:=⟨[0,2,3,4,9,10,11,13,14,15],[(.slot 16,.i),(.cell 7 0,.s),(.cell 7 1,.b)],[(.one 0,25),(.agg [1,2],26)],[.closed (.one (Ai 0)),.frm 2],25,[(26,4)]⟩
def Dz:List Step:=[bQ [25,3] oT (am .lss),bQ [0,25] [oP 27] (adK 38),bQ [27] [oP 28] (ce 57 1),bQ [28] [oD 29] (aQ 55),
   cB 26 [26,29] [oD 30],bQ [0,25] [oP 31] (adK 38),bQ [31] [oP 32] (ce 57 1),bQ [32] [oD 33] (aQ 55),
   cB 84 [26,33] [oD 34],
   cB 85 [30,34] [oD 35],bQ [25,.lit (Ai 1)] [oN 36] (am .add)]
def RG:List Step:=[bQ [25,3] oF (am .lss)]
def RH:List Step:=[bQ [0] [oN 1] (aC 38),bQ [1,.lit (Ai 0)] oF (am .eql),
   cB 24 [.lit (Ai 1)] [oD 2],bQ [0] [oN 3] (aC 38),.loop Dy [(Dz,[.frm 36,.frm 35])] RG,bQ [0] [oN 5] (aC 38),.loop Du [(Dx,[.frm 36,.frm 35])] RE,
   cB 53 [6,4] [⟨.agg [.s,.b,.s,.b],[(0,0,7),(0,2,8),(2,2,9)]⟩],bQ [0] [oN 10] (aC 38),bQ [10,.lit (Ai 1)] [oN 11] (am .sub),bQ [0,11] [oP 12] (adK 38),bQ [12] [oP 13] (ce 57 0),bQ [13] [oP 14] (ce 55 1),bQ [14] oT (aQ 4),
   cB 52 [7] [⟨.agg [.s,.b,.s,.b],[(0,0,15),(0,2,16),(2,2,17)]⟩],
   cB 41 [.lit (Ai 1),.lit (Ai 1)] [⟨.agg [.s,.b,.s,.b],[(0,0,18),(0,2,19),(2,2,20)]⟩],
   cB 152 [18,15] [⟨.agg [.s,.b,.s,.b],[(0,0,21),(0,2,22),(2,2,23)]⟩],
   cB 82 [0,21] [oS 24]]
def RI:List Out:=[oS 0]
theorem RJ {u:Rat} (hn0:0<n) (hk:k<=1000) (hkd:kd<=1000) (hkg:kg<=1000) (hs:decide ((q (n-1)).num<0)=true) (hd0:1=dL 0) (lH:Bd (dL 0).natAbs kd) (hdL:∀j,j<n->(Int.gcd (dL j) ((q j).den:Int):Int)≠0∧(Int.gcd (dL j) ((q j).den:Int):Int)∣dL j*((q j).den:Int)∧dL j*((q j).den:Int) / (Int.gcd (dL j) ((q j).den:Int):Int)=dL (j+1)∧Bd (dL (j+1)).natAbs kd) (hw:∀i,i<n->((q i).den:Int)∣(q i).num*dL n∧(q i).num*dL n / ((q i).den:Int)=wz i) (hg:∀i,i<=n->Bd (aT wz i:Int).natAbs kg) (ht : -(aH (aT wz n:Int) (dL n))=t) (ht0:t≠0) (hu:aH 1 1 / t=u) (hB:∀i,i<n->Bd (q i*u).num.natAbs K∧Bd (q i*u).den K) (hN:tl (λi=>(q i*u).num) n=N) (hn:n<=1000000:=by omega) (hK:K<=400000:=by omega):aj (ph (qu q dL wz n k kd kg K N t u)) prog ⟨128,[0],[⟨.agg [.s,.b,.s,.b],[(0,0,15),(0,2,16),(2,2,17)]⟩,oS 24],true⟩:=adL RI [⟨.agg [.s,.b,.s,.b],[(0,0,15),(0,2,16),(2,2,17)]⟩,oS 24] RH func128 (by kernel_rfl) (lB (aM (F:=(Df q k)) underlying38 ad rfl) (lB (iL ad) (lB (fP (z:=1) rfl rfl) (lB (aM (F:=(Df q k)) underlying38 ad rfl) (bN (counted n (λj=>ph (qu q dL wz n k kd kg K N t u ++ RF q dL k kd j)) (λ_=>0) (λ_ p hp=>bO (show p<(qu q dL wz n k kd kg K N t u).length from hp)) ⟨λ_=>rfl,λ_ _ h=>ai.dm (ai.eI h hd0) lH,trivial⟩ (λj hj=>by
   skip
   exact ⟨(Dz,[.frm 36,.frm 35]),rfl,⟨ad,λ_ _ h=>ai.dm h (hdL j hj).2.2.2,trivial⟩,(lB (bK ad ad) (lB (bw (i:=j) (F:=(Df q k)) underlying38 ad ad rfl) (lB (cf (off:=2) (len:=2) (sz:=4) (F:=Dw ((q j)) k) (G:=Jw (((q j)).den:Int) k) ad (λ_ _ h=>ah.snd' h) rfl) (lB (bT (sz:=2) (F:=Jw (((q j)).den:Int) k) ad (λ_ _ _ g h=>ai.kp h g) (λ_ _ h=>ai.is h) rfl) (lB (dE dD dD rfl rfl) (lB (bw (i:=j) (F:=(Df q k)) underlying38 ad ad rfl) (lB (cf (off:=2) (len:=2) (sz:=4) (F:=Dw ((q j)) k) (G:=Jw (((q j)).den:Int) k) ad (λ_ _ h=>ah.snd' h) rfl) (lB (bT (sz:=2) (F:=Jw (((q j)).den:Int) k) ad (λ_ _ _ g h=>ai.kp h g) (λ_ _ h=>ai.is h) rfl) (lB (ik (kd+k) dD dD rfl rfl) (lB (gi dD dD rfl ((hdL j hj).1) ((hdL j hj).2.1) ((hdL j hj).2.2.1)) (lB (ch ad rfl) au)))))))))))⟩) (lB (tlF ad ad) au)
   (poC (λ_ _ h=>(λh=>h) h) poN)) (lB (aM (F:=(Df q k)) underlying38 ad rfl) (bN (counted n (λi=>ph (qu q dL wz n k kd kg K N t u ++ RA q dL wz n k kd kg i)) (λ_=>0) (λ_ p hp=>bO (show p<(qu q dL wz n k kd kg K N t u).length from hp)) ⟨λ_=>rfl,λw=>ai.sO w kg,trivial⟩ (λi hi=>by
   skip
   exact ⟨(Dx,[.frm 36,.frm 35]),rfl,⟨ad,λ_ _ h=>ai.dm h (hg (i+1) (by omega)),trivial⟩,(lB (bK ad ad) (lB (bw (i:=i) (F:=(Df q k)) underlying38 ad ad rfl) (lB (cf (off:=0) (len:=2) (sz:=4) (F:=Dw ((q i)) k) (G:=Jw (((q i)).num) k) ad (λ_ _ h=>ah.fst' h) rfl) (lB (bT (sz:=2) (F:=Jw (((q i)).num) k) ad (λ_ _ _ g h=>ai.kp h g) (λ_ _ h=>ai.is h) rfl) (lB (dE dD dD rfl rfl) (lB (bw (i:=i) (F:=(Df q k)) underlying38 ad ad rfl) (lB (cf (off:=2) (len:=2) (sz:=4) (F:=Dw ((q i)) k) (G:=Jw (((q i)).den:Int) k) ad (λ_ _ h=>ah.snd' h) rfl) (lB (bT (sz:=2) (F:=Jw (((q i)).den:Int) k) ad (λ_ _ _ g h=>ai.kp h g) (λ_ _ h=>ai.is h) rfl) (lB (gi dD dD rfl (qt _) ((hw i hi).1) ((hw i hi).2)) (lB (ik (kg+(k+kd)) dD dD rfl rfl) (lB (ch ad rfl) au)))))))))))⟩) (lB (tlF ad ad) au)
   (poC (λ_ _ h=>(λh=>h) h) poN)) (lB (gv dD dD rfl rfl rfl (rfl)) (lB (aM (F:=(Df q k)) underlying38 ad rfl) (lB (cO ad rfl) (lB (bw (i:=(n-1)) (F:=(Df q k)) underlying38 ad ad rfl) (lB (cf (off:=0) (len:=2) (sz:=4) (F:=Dw ((q (n-1))) k) (G:=Jw (((q (n-1))).num) k) ad (λ_ _ h=>ah.fst' h) rfl) (lB (cf (off:=1) (len:=1) (sz:=2) (F:=Jw (((q (n-1))).num) k) (G:=λ_ v=>v = .agg #[.bool true]) ad (λ_ _ h=>ai.sP hs h) rfl) (lB (sQ ad) (lB (wR tS rfl rfl rfl (ht)) (lB (oz (z:=1) (y:=1) rfl rfl rfl rfl) (lB (qk tS tS rfl rfl rfl (ht0) (hu)) (lB (jk (q:=(λi=>(q i))) (c:=u) (n:=n) (K:=K) ad tS rfl hB hN) au))))))))))))))))))
  (aP [.fact 0 (.one (.s))] ⟨Rw.Is 4 (Df q k) n,trivial⟩) aV
def dnL (q:Nat->Rat):Nat->Nat
 | 0=>1
 | j+1=>Nat.lcm (dnL q j) (q j).den
theorem lD (q:Nat->Rat):∀n,0<dnL q n
 | 0=>Nat.one_pos
 | n+1=>Nat.lcm_pos (lD q n) (q n).den_pos
theorem qf {q:Nat->Rat}{C:Nat}:∀{n},(∀i,i<n->(q i).den∣C)->dnL q n∣C
 | 0,_=>Nat.one_dvd C
 | n+1,h=>Nat.lcm_dvd (qf λi _=>h i (by omega)) (h n (by omega))
theorem mQ {q:Nat->Rat}:∀{n i},i<n->(q i).den∣dnL q n
 | n+1,i,hi=>by
  rcases Nat.lt_or_ge i n with h | h
  ·exact Nat.dvd_trans (mQ h) (Nat.dvd_lcm_left _ _)
  ·rw [show i=n by omega];exact Nat.dvd_lcm_right _ _
theorem wg {q:Rat}{v:Int} (h:q*((v:Int):Rat)=((u:Int):Rat)) (hv:v≠0:=by omega):q.den∣v.natAbs:=by
 have hv2:((v:Int):Rat)≠0:=λe=>hv (by exact_mod_cast e);have e:q=Rat.divInt u v:=by rw [Rat.divInt_eq_div,<- h,Rat.div_def,Rat.mul_assoc,Rat.mul_inv_cancel _ hv2,Rat.mul_one]
 rw [e,Rat.den_divInt,if_neg hv];exact Nat.div_dvd_of_dvd (Nat.gcd_dvd_left _ _)
theorem sA (z:Nat->Int) (a:Int):∀n,aT (λi=>z i*a) n=aT z n*a.natAbs
 | 0=>(Nat.zero_mul _).symm
 | n+1=>by rw [aT,aT,sA z a n,Int.natAbs_mul,Nat.gcd_mul_right]
theorem DA {a b c d:Int} (h:a*c=b*d) (hc:0<c) (hd:0<d):a<0 ↔ b<0:=by
 constructor
 ·intro ha;rcases Int.lt_or_le b 0 with hb | hb
  ·exact hb
  ·have h1:=Int.mul_neg_of_neg_of_pos ha hc;have h2:=Int.mul_nonneg hb (Int.le_of_lt hd);omega
 ·intro hb;rcases Int.lt_or_le a 0 with ha | ha
  ·exact ha
  ·have h1:=Int.mul_neg_of_neg_of_pos hb hd;have h2:=Int.mul_nonneg ha (Int.le_of_lt hc);omega
theorem sy (q:Rat):q*((q.den:Int):Rat)=((q.num:Int):Rat):=by
 have h:(((q.den:Int)):Rat)≠0:=λe=>qt q (by exact_mod_cast e)
 conv=>lhs;lhs;rw [<- Rat.num_divInt_den q]
 rw [Rat.divInt_eq_div,Rat.div_mul_cancel h]
theorem RK {q:Rat}{D E g r s C G R:Int} (hCE:C=D*E) (hG:G=g*E) (hE:E≠0) (hD:D≠0) (hq:q*((C:Int):Rat)=((R:Int):Rat)) (hr:R=r*G) (ht:t*((D:Int):Rat)=((s*g:Int):Rat)) (hs:s*s=1) (ht0:t≠0):q*(1 / t)=((s*r:Int):Rat):=by
 have cz:∀{x:Int},x≠0->((x:Int):Rat)≠0:=λh e=>h (by exact_mod_cast e);have h1:=Rat.mul_inv_cancel _ (cz hE);have h2:=Rat.mul_inv_cancel _ (cz hD);have h3:=Rat.mul_inv_cancel _ ht0;have hs':((s:Int):Rat)*((s:Int):Rat)=1:=by rw [<- Rat.intCast_mul,hs];rfl
 rw [hr,hG,hCE,Rat.intCast_mul,Rat.intCast_mul,Rat.intCast_mul] at hq;rw [Rat.intCast_mul] at ht;rw [Rat.div_def,Rat.one_mul,Rat.intCast_mul];have h4:q*((D:Int):Rat)=((r:Int):Rat)*((g:Int):Rat):=by have h5:=congrArg (λx=>x*((E:Int):Rat)⁻¹) hq;grind
 have h6:q=((s:Int):Rat)*((r:Int):Rat)*t:=by grind
 rw [h6,Rat.mul_assoc,h3,Rat.mul_one]
theorem DB {u:Value}{k:Nat}{b:Bool} (h:ah w u t k) (hb:decide (t.num<0)=b):(cC.agg [.s,.lit (.cb b),.s,.b]).is u:=by obtain ⟨p,n,c,b1,p',n',c',b2,rfl,h1,h2⟩:=h;have e:b1=b:=h1.flag.1.trans hb;subst e;exact ⟨_,rfl,⟨_,_,_,rfl⟩,rfl,⟨_,_,_,rfl⟩,⟨_,rfl⟩,trivial⟩
section
variable {Φ:PH}{p y kr kc:Nat}{C:Int}{b:Bool}
theorem RM (hp:Im Φ p (Rw 4 (Df q k) n)) (hn0:n=0):aj Φ prog ⟨128,[.fact p],[⟨.agg [.s,.lit (.cb false),.s,.b],[]⟩,⟨.one (.lit .nl),[]⟩],true⟩:=by
 subst hn0;intro X w vs hX ha;refine ((Dd (z:=λ_=>0) (n:=0) (k:=k) rfl) X w vs hX (fr.ok (Φ:=Φ) (l:=[.fact p]) (m:=[0]) ⟨λw v h=>show Rw 4 (Zf (λ_=>(0:Int)) k) 0 w v from Rw.to (hp w v h) λ_ _ _ hi _=>absurd hi (by omega),trivial⟩ ha)).mono λe w' ⟨hg,us,he,h2⟩=>⟨hg,us,he,?_⟩
 match us,h2 with
 | [u0,u],h2=>
  have h3:ah w' u0 (aH 0 1) 6:=h2.1.2 _ (List.mem_cons_self ..) w' (Off.refl _ _);exact ⟨⟨DB h3 (by decide +kernel),λ_ h=>by cases h⟩,⟨h2.2.1.1,λ_ h=>by cases h⟩,trivial⟩
theorem DC (hp:Im Φ p (Rw 4 (Df q k) n)) (hy:Φ y=λw v=>Rw 4 (λi w v=>ah w v ((ae PL i:Int):Rat) K) PL.length w v) (hn0:0<n) (hn:n<=1000) (hk:k<=1000) (hkr:kr<=1000) (hkc:kc<=1000) (hK:K<=8000) (hkK:kr<=K∧1<=K)
  (hC:0<C) (hR:∀i,i<n->q i*((C:Int):Rat)=((R i:Int):Rat)) (hbR:∀i,i<n->Bd (R i).natAbs kr) (hbC:Bd C.natAbs kc) (hr0:R (n-1)≠0) (hb:decide (R (n-1)<0)=b) (hPL:mk n (λi=>(if b then -1 else 1)*(R i / (aT R n:Int)))=PL) :
  aj Φ prog ⟨128,[.fact p],[⟨.agg [.s,.lit (.cb b),.s,.b],[]⟩,oS y],true⟩:=by
 have cz:∀{x:Int},x≠0->((x:Int):Rat)≠0:=λh e=>h (by exact_mod_cast e);have hC0:C≠0:=by omega
 have hdv:∀i,i<n->(q i).den∣C.natAbs:=λi hi=>wg (hv:=hC0) (hR i hi);have hdl:∀j,j<=n->dnL q j∣C.natAbs:=λj hj=>qf λi hi=>hdv i (by omega);have hCp:0<C.natAbs:=by omega
 obtain ⟨E,hE⟩:=hdl n (Nat.le_refl _);have hDp:=lD q n;have hE0:0<E:=by
  rcases Nat.eq_zero_or_pos E with h | h
  ·rw [h,Nat.mul_zero] at hE;omega
  ·exact h
 have hCE:C=(dnL q n:Int)*(E:Int):=by rw [<- Int.natCast_mul,<- hE];omega
 obtain ⟨wz,hwz⟩:∃wz:Nat->Int,∀i,(q i).num*(dnL q n:Int) / ((q i).den:Int)=wz i:=⟨_,λ_=>rfl⟩;have hwd:∀i,i<n->((q i).den:Int)∣(q i).num*(dnL q n:Int):=λi hi=>Int.dvd_trans (Int.natCast_dvd_natCast.2 (mQ hi)) (Int.dvd_mul_left _ _);have hwE:∀i,i<n->wz i*(E:Int)=R i:=λi hi=>by
  have h1:=Int.ediv_mul_cancel (hwd i hi);rw [hwz] at h1;have h2:=sy (q i);have h3:=hR i hi;have h4:=cz (qt (q i));have h5:((wz i:Int):Rat)*(((q i).den:Int):Rat)=q i*(((q i).den:Int):Rat)*((dnL q n:Int):Rat):=by rw [h2,<- Rat.intCast_mul,<- Rat.intCast_mul,h1]
  have h6:=Rat.mul_inv_cancel _ h4;have h7:((wz i:Int):Rat)=q i*((dnL q n:Int):Rat):=by have h8:=congrArg (λx=>x*(((q i).den:Int):Rat)⁻¹) h5;grind
  have h9:((wz i*(E:Int):Int):Rat)=((R i:Int):Rat):=by rw [Rat.intCast_mul,h7,<- h3,hCE,Rat.intCast_mul,Rat.mul_assoc]
  exact_mod_cast h9
 have hG:(aT R n:Int)=(aT wz n:Int)*(E:Int):=by have h1:=sA wz (E:Int) n;rw [qg (g:=R) λi hi=>hwE i hi,Int.natAbs_natCast] at h1;rw [h1,Int.natCast_mul]
 have RN:∀i,i<n->(wz i).natAbs<=(R i).natAbs:=λi hi=>by rw [<- hwE i hi,Int.natAbs_mul,Int.natAbs_natCast];exact Nat.le_mul_of_pos_right _ hE0
 have aiw:tl R n=n:=gw λ_=>hr0;have RO:(aT R n:Int)≠0:=DD (by omega);have RP:(aT wz n:Int)≠0:=λe=>RO (by rw [hG,e,Int.zero_mul]);have hRr:∀i,i<n->R i=R i / (aT R n:Int)*(aT R n:Int):=λi hi=>(Int.ediv_mul_cancel (jK i hi)).symm;obtain ⟨s,hsb⟩:∃s:Int,(if b then -1 else 1)=s:=⟨_,rfl⟩;have hss:s*s=1:=by rw [<- hsb];cases b <;> rfl
 have hDz:(dnL q n:Int)≠0:=by omega
 have hEz:(E:Int)≠0:=by omega
 obtain ⟨t,ht⟩:∃t:Rat,(if b then -(aH (aT wz n:Int) (dnL q n:Int)) else aH (aT wz n:Int) (dnL q n:Int))=t:=⟨_,rfl⟩;have htD:t*((dnL q n:Int):Rat)=((s*(aT wz n:Int):Int):Rat):=by
  have h1:aH (aT wz n:Int) (dnL q n:Int)*((dnL q n:Int):Rat)=((aT wz n:Int):Rat):=by rw [iN hDz,Rat.divInt_eq_div,Rat.div_mul_cancel (cz hDz)]
  rw [<- ht,<- hsb];cases b
  ·rw [if_neg (by decide),if_neg (by decide),h1,Int.one_mul]
  ·rw [if_pos rfl,if_pos rfl,Rat.neg_mul,h1,<- Rat.intCast_neg,Int.neg_mul,Int.one_mul]
 have ht0:t≠0:=λe=>by
  rw [e,Rat.zero_mul] at htD;have h1:s*(aT wz n:Int)=0:=by exact_mod_cast htD.symm
  rcases Int.mul_eq_zero.1 h1 with h | h
  ·rw [h] at hss;exact absurd hss (by decide)
  ·exact RP h
 have hval:∀i,i<n->q i*(aH 1 1 / t)=((s*(R i / (aT R n:Int)):Int):Rat):=λi hi=>by rw [show aH 1 1=(1:Rat) from gg 1];exact RK hCE hG hEz hDz (hR i hi) (hRr i hi) htD hss ht0
 have hsa:s.natAbs=1:=by rw [<- hsb];cases b <;> rfl
 have hB':∀i,i<n->Bd (q i*(aH 1 1 / t)).num.natAbs K∧Bd (q i*(aH 1 1 / t)).den K:=λi hi=>by rw [hval i hi];refine ⟨?_,dV hkK.2⟩;show Bd (s*(R i / (aT R n:Int))).natAbs K;rw [Int.natAbs_mul,hsa,Nat.one_mul];exact (((hbR i hi).le (Int.natAbs_ediv_le_natAbs ..))).more hkK.1
 have RQ:PL.length=n:=by rw [<- hPL,dc]
 have hcf:∀i,i<n->ae PL i=s*(R i / (aT R n:Int)):=λi hi=>by rw [<- hPL,cU,if_pos hi,hsb]
 have hN:tl (λi=>(q i*(aH 1 1 / t)).num) n=n:=gw λ_=>by
  show (q (n-1)*(aH 1 1 / t)).num≠0;rw [hval _ (by omega)];intro h;have h:s*(R (n-1) / (aT R n:Int))=0:=h;have h1:=hRr (n-1) (by omega);rcases Int.mul_eq_zero.1 h with h2 | h2
  ·rw [h2] at hss;exact absurd hss (by decide)
  ·rw [h2,Int.zero_mul] at h1;exact hr0 h1
 have hsg:decide ((q (n-1)).num<0)=b:=by
  rw [<- hb];have h1:=hR (n-1) (by omega);have h2:=sy (q (n-1));have h3:(q (n-1)).num*C=R (n-1)*((q (n-1)).den:Int):=by
   have h4:(((q (n-1)).num*C:Int):Rat)=((R (n-1)*((q (n-1)).den:Int):Int):Rat):=by rw [Rat.intCast_mul,Rat.intCast_mul,<- h1,<- h2];grind
   exact_mod_cast h4
  exact decide_eq_decide.2 (DA h3 hC (by have:=(q (n-1)).den_pos;omega))
 have hdB:∀j,j<=n->Bd ((dnL q j:Int)).natAbs kc:=λj hj=>by rw [Int.natAbs_natCast];exact hbC.le (Nat.le_of_dvd hCp (hdl j hj))
 have hdL:∀j,j<n->(Int.gcd (dnL q j:Int) ((q j).den:Int):Int)≠0∧(Int.gcd (dnL q j:Int) ((q j).den:Int):Int)∣(dnL q j:Int)*((q j).den:Int)∧(dnL q j:Int)*((q j).den:Int) / (Int.gcd (dnL q j:Int) ((q j).den:Int):Int)=(dnL q (j+1):Int)∧Bd ((dnL q (j+1):Int)).natAbs kc:=λj hj=>by rw [show (Int.gcd (dnL q j:Int) ((q j).den:Int))=Nat.gcd (dnL q j) (q j).den from rfl,<- Int.natCast_mul,<- Int.natCast_ediv];refine ⟨?_,Int.natCast_dvd_natCast.2 (Nat.dvd_trans (Nat.gcd_dvd_left _ _) (Nat.dvd_mul_right _ _)),rfl,hdB _ (by omega)⟩;have:=Nat.gcd_pos_of_pos_left (q j).den (lD q j);omega
 have hg:∀i,i<=n->Bd ((aT wz i:Int)).natAbs kr:=λi hi=>by rw [Int.natAbs_natCast];exact wS (Nat.pow_pos (by omega)) λj hj=>(hbR j (by omega)).le (RN j (by omega))
 intro X w vs hX ha;have hfin:∀{e:Ending}{w':World}{a0 a1 a2 y':Nat}{Ψ:PH}{kk:Nat},(Ψ a0=Dw t kk)->(Ψ y'=λw v=>Rw 4 (λi w v=>ah w v (q i*(aH 1 1 / t)) K) n w v)->post Ψ X [⟨.agg [.s,.b,.s,.b],[(0,0,a0),(0,2,a1),(2,2,a2)]⟩,⟨.one .s,[(0,0,y')]⟩] true w e w'->post Φ X [⟨.agg [.s,.lit (.cb b),.s,.b],[]⟩,oS y] true w e w':=by
  intro e w' a0 a1 a2 y' Ψ kk hq0 hq1 ⟨hg',us,he,h2⟩;refine ⟨hg',us,he,?_⟩
  match us,h2 with
  | [u0,u],h2=>
   have h3:Ψ a0 w' u0:=h2.1.2 (0,0,a0) (List.mem_cons_self ..) w' (Off.refl _ _);rw [hq0] at h3;have hts:decide (t.num<0)=b:=by
    have h4:=sy t;have h5:t.num*(dnL q n:Int)=(s*(aT wz n:Int))*(t.den:Int):=by
     have h6:((t.num*(dnL q n:Int):Int):Rat)=(((s*(aT wz n:Int))*(t.den:Int):Int):Rat):=by rw [Rat.intCast_mul,Rat.intCast_mul _ (t.den:Int),<- htD,<- h4];grind
     exact_mod_cast h6
    have h7:=DA h5 (by omega) (by have:=t.den_pos;omega);cases b
    ·refine decide_eq_false λh=>?_;have:=h7.1 h;rw [<- hsb,if_neg (by decide)] at this;omega
    ·refine decide_eq_true (h7.2 ?_);rw [<- hsb,if_pos rfl];omega
   refine ⟨⟨DB h3 hts,λ_ h=>by cases h⟩,⟨h2.2.1.1,λr hr w1 hw=>?_⟩,trivial⟩;simp only [List.mem_singleton] at hr;subst hr;have h8:Ψ y' w1 u:=h2.2.1.2 (0,0,y') (List.mem_singleton.2 rfl) w1 hw;rw [hq1] at h8;show Φ y w1 u;rw [hy,RQ];exact Rw.to h8 λi w _ hi h=>ah.eq h (by rw [hval i hi,hcf i hi])
 have lH:Bd (Int.natAbs ((dnL q 0:Nat):Int)) kc:=hdB 0 (by omega);cases b
 ·rw [if_neg (by decide)] at ht;exact ((Rz (q:=q) (dL:=λj=>(dnL q j:Int)) (wz:=wz) (n:=n) (k:=k) (kd:=kc) (kg:=kr) (K:=K) (N:=n) (t:=t) (u:=aH 1 1 / t) hn0 hk hkc hkr hsg rfl lH hdL (λi hi=>⟨hwd i hi,hwz i⟩) hg ht ht0 rfl hB' hN) X w vs hX (fr.ok (Φ:=Φ) (l:=[.fact p]) (m:=[0]) ⟨hp,trivial⟩ ha)).mono λ_ w' h=>hfin (Ψ:=ph _) rfl rfl h
 ·rw [if_pos rfl] at ht;exact ((RJ (q:=q) (dL:=λj=>(dnL q j:Int)) (wz:=wz) (n:=n) (k:=k) (kd:=kc) (kg:=kr) (K:=K) (N:=n) (t:=t) (u:=aH 1 1 / t) hn0 hk hkc hkr hsg rfl lH hdL (λi hi=>⟨hwd i hi,hwz i⟩) hg ht ht0 rfl hB' hN) X w vs hX (fr.ok (Φ:=Φ) (l:=[.fact p]) (m:=[0]) ⟨hp,trivial⟩ ha)).mono λ_ _ h=>hfin (Ψ:=ph _) rfl rfl h
end
def RS (q:Nat->Rat) (n k:Nat):List WP:=[Rw 4 (Df q k) n]
def RU:List Step:=[.base ⟨128,[0],[⟨.agg [.s,.lit (.cb false),.s,.b],[]⟩,⟨.one (.lit (.nl)),[]⟩],true⟩]
def RV:List Out:=[oS 0]
theorem RW  (hn0:n=0):aj (ph (RS q n k)) prog ⟨87,[0],[⟨.one (.lit (.nl)),[]⟩],false⟩:=adL RV [⟨.one (.lit (.nl)),[]⟩] RU func87 (by kernel_rfl) (lB (RM (n:=n) (q:=q) (k:=k) ad hn0) au)
  (aP [.fact 0 (.one (.s))] ⟨Rw.Is 4 (Df q k) n,trivial⟩) aV
def RX (q:Nat->Rat) (n k K:Nat) (PL:List Int):List WP:=[Rw 4 (Df q k) n,Rw 4 (Zf (ae PL) K) PL.length]
def RY:List Step:=[.base ⟨128,[0],[⟨.agg [.s,.lit (.cb false),.s,.b],[]⟩,oS 1],true⟩]
def RZ:List Out:=[oS 0]
theorem Sa {C:Int}{kr kc:Nat} (hn0:0<n) (hn:n<=1000) (hk:k<=1000) (hkr:kr<=1000) (hkc:kc<=1000) (hK:K<=8000) (hkK:kr<=K∧1<=K) (hC:0<C) (hR:∀i,i<n->q i*((C:Int):Rat)=((R i:Int):Rat)) (hbR:∀i,i<n->Bd (R i).natAbs kr) (hbC:Bd C.natAbs kc) (hr0:R (n-1)≠0) (hb:decide (R (n-1)<0)=false) (hPL:mk n (λi=>(if false then -1 else 1)*(R i / (aT R n:Int)))=PL):aj (ph (RX q n k K PL)) prog ⟨87,[0],[oS 1],false⟩:=adL RZ [oS 1] RY func87 (by kernel_rfl) (lB (DC (R:=R) (C:=C) (kr:=kr) (kc:=kc) ad rfl hn0 hn hk hkr hkc hK hkK hC hR hbR hbC hr0 hb hPL) au)
  (aP [.fact 0 (.one (.s))] ⟨Rw.Is 4 (Df q k) n,trivial⟩) aV
def Sb (q:Nat->Rat) (n k K:Nat) (PL:List Int):List WP:=[Rw 4 (Df q k) n,Rw 4 (Zf (ae PL) K) PL.length,λw v=>Rw 4 (λι w v=>ah w v ((-((((ae PL) ι:Int):Rat)))) K) PL.length w v]
def Sc:List Step:=[.base ⟨128,[0],[⟨.agg [.s,.lit (.cb true),.s,.b],[]⟩,oS 1],true⟩,
   cB 88 [1] [oS 2]]
def Sd:List Out:=[oS 0]
theorem Se {C:Int}{kr kc:Nat} (hn0:0<n) (hn:n<=1000) (hk:k<=1000) (hkr:kr<=1000) (hkc:kc<=1000) (hK:K<=8000) (hkK:kr<=K∧1<=K) (hC:0<C) (hR:∀i,i<n->q i*((C:Int):Rat)=((R i:Int):Rat)) (hbR:∀i,i<n->Bd (R i).natAbs kr) (hbC:Bd C.natAbs kc) (hr0:R (n-1)≠0) (hb:decide (R (n-1)<0)=true) (hPL:mk n (λi=>(if true then -1 else 1)*(R i / (aT R n:Int)))=PL) (hPl:PL.length<=1000) (hPB:∀i,i<PL.length->Bd ((ae PL i:Int):Rat).num.natAbs K∧Bd ((ae PL i:Int):Rat).den K) (hPt:0<PL.length->((ae PL (PL.length-1):Int):Rat).num≠0):aj (ph (Sb q n k K PL)) prog ⟨87,[0],[oS 2],false⟩:=adL Sd [oS 2] Sc func87 (by kernel_rfl) (lB (DC (R:=R) (C:=C) (kr:=kr) (kc:=kc) ad rfl hn0 hn hk hkr hkc hK hkK hC hR hbR hbC hr0 hb hPL) (lB (wE (q:=(λi=>((ae PL i:Int):Rat))) (n:=PL.length) (k:=K) ad rfl trivial hPB hPt) au))
  (aP [.fact 0 (.one (.s))] ⟨Rw.Is 4 (Df q k) n,trivial⟩) aV
section
variable {Φ:PH}{p y kr kc:Nat}{C:Int}{SL:List Int}
theorem DE (hp:Im Φ p (Rw 4 (Df q k) n)) (hy:Φ y=λw v=>Rw 4 (λi w v=>ah w v ((ae SL i:Int):Rat) K) SL.length w v)
  (hR:∀i,i<n->q i*((C:Int):Rat)=((R i:Int):Rat)) (hbR:∀i,i<n->Bd (R i).natAbs kr) (hbC:Bd C.natAbs kc) (hr0:0<n->R (n-1)≠0) (hSL:mk n (λi=>R i / (aT R n:Int))=SL) (hn:n<=1000:=by omega) (hk:k<=1000:=by omega) (hkr:kr<=1000:=by omega) (hkc:kc<=1000:=by omega) (hK:K<=8000:=by omega) (hkK:kr<=K∧1<=K:=by omega) (hC:0<C:=by omega) :
  aj Φ prog ⟨87,[.fact p],[oS y],false⟩:=by
 have hl:SL.length=n:=by rw [<- hSL,dc]
 rcases Nat.eq_zero_or_pos n with h0 | h0
 ·intro X w vs hX ha;refine ((RW (q:=q) (k:=k) h0) X w vs hX (fr.ok (Φ:=Φ) (l:=[.fact p]) (m:=[0]) ⟨hp,trivial⟩ ha)).mono λe w' ⟨hg,us,he,h2⟩=>⟨hg,us,he,?_⟩
  match us,h2 with
  | [u],h2=>
   have e:u = .slice none 0 0:=h2.1.1.1;subst e;exact cP ⟨⟨_,_,_,rfl⟩,λ_ h=>by cases h⟩ hy λw1 _=>by rw [hl,h0];exact Rw.nil _ _ _
 have hr0:=hr0 h0;have hbS:∀i,i<n->Bd (R i / (aT R n:Int)).natAbs K:=λi hi=>((hbR i hi).le (Int.natAbs_ediv_le_natAbs ..)).more hkK.1;by_cases hs:R (n-1)<0
 ·obtain ⟨PL,hPL⟩:∃PL,mk n (λi=>(if true then -1 else 1)*(R i / (aT R n:Int)))=PL:=⟨_,rfl⟩;have hPl:PL.length=n:=by rw [<- hPL,dc]
  have hc:∀i,i<n->ae PL i = -(R i / (aT R n:Int)):=λi hi=>by rw [<- hPL,cU,if_pos hi,if_pos rfl,Int.neg_mul,Int.one_mul]
  refine aU (Se (q:=q) (R:=R) (C:=C) (n:=n) (k:=k) (K:=K) (kr:=kr) (kc:=kc) (PL:=PL) h0 hn hk hkr hkc hK hkK hC hR hbR hbC hr0 (decide_eq_true hs) hPL (by omega) (λi hi=>?_) λh=>?_) ⟨hp,trivial⟩ ⟨⟨rfl,⟨rfl,rfl,λw v h=>?_⟩,trivial⟩,trivial⟩
  ·refine ⟨?_,dV hkK.2⟩;show Bd (ae PL i).natAbs K;rw [hc i (by omega),Int.natAbs_neg];exact hbS i (by omega)
  ·show ae PL (PL.length-1)≠0;rw [hc _ (by omega),hPl];intro e;have h1:=(Int.ediv_mul_cancel (jK (z:=R) (n:=n) (n-1) (by omega))).symm;rw [show R (n-1) / (aT R n:Int)=0 by omega,Int.zero_mul] at h1;exact hr0 h1
  ·have h:Rw 4 (λi w v=>ah w v (-((ae PL i:Int):Rat)) K) PL.length w v:=h;rw [hy];exact Rw.to (Rw.len h (by omega)) λi _ v _ h=>ah.eq h (by rw [hc i (by omega),<- hSL,cU,if_pos (by omega),Rat.intCast_neg];exact Rat.neg_neg _)
 ·obtain ⟨PL,hPL⟩:∃PL,mk n (λi=>(if false then -1 else 1)*(R i / (aT R n:Int)))=PL:=⟨_,rfl⟩;have e:PL=SL:=by
   rw [<- hPL,<- hSL];congr 1;funext i;rw [if_neg (by decide),Int.one_mul]
  subst e;exact aU (Sa (q:=q) (R:=R) (C:=C) (n:=n) (k:=k) (K:=K) (kr:=kr) (kc:=kc) (PL:=PL) h0 hn hk hkr hkc hK hkK hC hR hbR hbC hr0 (decide_eq_false hs) hPL) ⟨hp,trivial⟩ ⟨⟨rfl,⟨rfl,rfl,λ_ _ h=>hy▸h⟩,trivial⟩,trivial⟩
end
end Go.Proofs.YtlmanbjkkjfjgaaGreat.Sym
