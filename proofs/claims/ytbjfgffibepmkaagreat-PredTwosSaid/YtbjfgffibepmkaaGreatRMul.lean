/- The reference's product -/
import Derived.Test.YtbjfgffibepmkaaGreatDivX
set_option maxRecDepth 100000
namespace Go.Proofs.YtbjfgffibepmkaaGreat.Sym
open Go.Proofs.Tryz
open Go.RowKit
variable {K k l m n:Nat}{w:World}{q r:Nat->Rat}
theorem VR:aW 0 1=0:=by decide +kernel
def fg (q r:Nat->Rat) (l:Nat):Nat->Nat->Rat
 | 0,_=>0
 | j+1,p=>fg q r l j p+(if j<=p∧p<j+l then q j*r (p-j) else 0)
def db (q r:Nat->Rat) (l j i p:Nat):Rat:=fg q r l j p+(if j<=p∧p<j+i then q j*r (p-j) else 0)
section
variable {j i p:Nat}
theorem VS:db q r l j 0 p=fg q r l j p:=by
 unfold db
 rw [if_neg (by omega),Rat.add_zero]
theorem VT (h:p≠j+i):db q r l j (i+1) p=db q r l j i p:=by
 unfold db
 split <;> split <;> first | rfl | omega
theorem VU:db q r l j i (j+i)+q j*r i=db q r l j (i+1) (j+i):=by
 unfold db
 rw [if_neg (by omega),if_pos (by omega),show j+i-j=i by omega,Rat.add_zero]
end
theorem VV.kp {j:Nat}{w1:World}{v:Value}{i:Nat} (h:i<j->af w v 0 K) (g:Kp w w1):i<j->af w1 v 0 K:=fun hi=>af.kp (h hi) g
def lj (q r:Nat->Rat) (n m k l K:Nat):List WP:=[Rw 4 (Df q k) n,Rw 4 (Df r l) m,Nz n,Nz m,Nz n,Nz m,Nz (n+m),Nz (n+m-1),fun w v=>aC 4 63 (fun ι w v=>ι<0->af w v 0 K) (n+m-1) w v,gW (n+m-1),Nz (n+m-1),aC 4 63 (Df (fg q r m 0) K) (n+m-1),Nz n,aC 4 63 (Df (fg q r m n) K) (n+m-1),Rw 4 (Df (fg q r m n) K) (tl (fun ι=>(fg q r m n ι).num) (n+m-1))]
def VW (q r:Nat->Rat) (n m k l K:Nat) (j i:Nat):List WP:=[Nz i,aC 4 63 (Df (db q r m j i) K) (n+m-1),fun _ _=>True,Nz (j+i),Nz (j+i),At 4,Ptr 4 (Dw (db q r m j i (j+i)) K),Dw (db q r m j i (j+i)) K,Ptr 4 (Dw (q j) k),Dw (q j) k,Ptr 4 (Dw (r i) l),Dw (r i) l,Dw ((q j)*(r i)) (2*(k+l)+2),fun w v=>ai w v (((q j)*(r i)).num) (2*(k+l)+2),fun w v=>ai w v (((q j)*(r i)).den:Int) (2*(k+l)+2),Dw ((db q r m j i (j+i))+((q j)*(r i))) (3*(K+(2*(k+l)+2))+3),fun w v=>ai w v (((db q r m j i (j+i))+((q j)*(r i))).num) (3*(K+(2*(k+l)+2))+3),fun w v=>ai w v (((db q r m j i (j+i))+((q j)*(r i))).den:Int) (3*(K+(2*(k+l)+2))+3),At 4,Ptr 4 (Dw (db q r m j i (j+i)) K),fun w v=>aC 4 63 (fun ι w v=>af w v (db q r m j (i+1) ι) K) (n+m-1) w v,Nz (i+1)]
def DX:bJ:=⟨[0,1,4,7,9,10,11,12,13,14,15,16,17,18,19,20,21,22,23,24,25,26,27,34,35,36,37,38,39,40],[(.slot 41,.i),(.slot 5,.s)],[(.one 0,21),(.one 1,.cD [1] 22),(.one 1,.lo 1)],[.closed (.one (.ci .i64 0)),.frm 16,.frm 0],21,[(22,19)]⟩
def DY:List Step:=[bQ [21,18] oT (au .lss),bQ [15,21] [oN 24] (au .add),bQ [15,21] [oN 25] (au .add),.base ⟨0,[22,25],[oP 27],.joint [1] 26 (aN 32)⟩,.base ⟨0,[27],[oQ 28],.kX [1] (aO 63)⟩,bQ [0,15] [oP 29] (aN 32),bQ [29] [oQ 30] (aO 63),bQ [1,21] [oP 31] (aN 32),bQ [31] [oQ 32] (aO 63),.base ⟨91,[30,32],[⟨.agg [.s,.b,.s,.b],[(0,0,33),(0,2,34),(2,2,35)]⟩],false⟩,.base ⟨90,[28,33],[⟨.agg [.s,.b,.s,.b],[(0,0,36),(0,2,37),(2,2,38)]⟩],.dF [1] false⟩,.base ⟨0,[22,24],[oP 40],.joint [1] 39 (aN 32)⟩,.base ⟨0,[22,24,.any,36],[oS 41],.put [] 1 0 39 (fB 63 (.tmp 44) (.tmp 47))⟩,bQ [21,.lit (.ci .i64 1)] [oN 42] (au .add)]
def VX:List Step:=[bQ [21,18] oF (au .lss)]
def vI (q r:Nat->Rat) (n m K:Nat) (j:Nat):List WP:=[Nz j,aC 4 63 (Df (fg q r m j) K) (n+m-1),fun _ _=>True,Nz m,aC 4 63 (Df (db q r m j m) K) (n+m-1),Nz (j+1)]
def DZ:bJ:=⟨[0,1,4,9,10,11,12,13,14,15,16,17,18,19,20,21,22,23,24,25,26,27,34,35],[(.slot 36,.i),(.slot 5,.s)],[(.one 0,15),(.one 1,.cD [1] 16),(.one 1,.lo 1)],[.closed (.one (.ci .i64 0)),.frm 11,.frm 0],15,[(16,13)]⟩
def Ea:List Step:=[bQ [15,12] oT (au .lss),bQ [1] [oN 18] (aK 32),.loop DX [(DY,[.frm 42,.frm 41,.frm 0])] VX,bQ [15,.lit (.ci .i64 1)] [oN 20] (au .add)]
def VY:List Step:=[bQ [15,12] oF (au .lss)]
def VZ (n m K:Nat) (j:Nat):List WP:=[Nz j,fun w v=>aC 4 63 (fun ι w v=>ι<j->af w v 0 K) (n+m-1) w v,fun _ _=>True,Dw (aW 0 1) 6,fun w v=>ai w v ((aW 0 1).num) 6,fun w v=>ai w v ((aW 0 1).den:Int) 6,At 4,fun w v=>Ptr 4 (fun w v=>j<j->af w v 0 K) w v,fun w v=>aC 4 63 (fun ι w v=>ι<(j+1)->af w v 0 K) (n+m-1) w v,Nz (j+1)]
def Eb:bJ:=⟨[0,1,4,9,10,11,12,13,14,15,16,17,18,19,20,21,22,23,24,25],[(.slot 26,.i),(.slot 5,.s)],[(.one 0,15),(.one 1,.cD [1] 16),(.one 1,.lo 1)],[.closed (.one (.ci .i64 0)),.frm 8,.frm 0],15,[(16,11)]⟩
def Ec:List Step:=[bQ [15,10] oT (au .lss),.base ⟨89,[],[⟨.agg [.s,.b,.s,.b],[(0,0,18),(0,2,19),(2,2,20)]⟩],false⟩,.base ⟨0,[16,15],[oP 22],.joint [1] 21 (aN 32)⟩,.base ⟨0,[16,15,.any,18],[oS 23],.put [] 1 0 21 (fB 63 (.tmp 29) (.tmp 30))⟩,bQ [15,.lit (.ci .i64 1)] [oN 24] (au .add)]
def Wa:List Step:=[bQ [15,10] oF (au .lss)]
def Wb:List Step:=[bQ [0] [oN 2] (aK 32),bQ [2,.lit (.ci .i64 0)] oF (au .eql),bQ [1] [oN 3] (aK 32),bQ [3,.lit (.ci .i64 0)] oF (au .eql),bQ [0] [oN 4] (aK 32),bQ [1] [oN 5] (aK 32),bQ [4,5] [oN 6] (au .add),bQ [6,.lit (.ci .i64 1)] [oN 7] (au .sub),.base ⟨0,[7,7],[oS 8],.loose [] 1 0 (fK 32)⟩,.freed (.one (.s 16 0)) 8 9,bQ [9] [oN 10] (aK 32),.loop Eb [(Ec,[.frm 24,.frm 23,.frm 0])] Wa,bQ [0] [oN 12] (aK 32),.loop DZ [(Ea,[.frm 20,.frm 19,.frm 0])] VY,.base ⟨67,[13],[oS 14],.dF [1] false⟩]
def Wc:List Out:=[oS 0,oS 1]
theorem Wd  (hn:n<=400000) (hm:m<=400000) (hk:k<=8000) (hl:l<=8000) (hK:K<=8000) (hK1:1<=K) (h1:0<n) (h2:0<m) (hB:∀j i p,j<n->i<=m->Bd (db q r m j i p).num.natAbs K∧Bd (db q r m j i p).den K):aj (ph (lj q r n m k l K)) prog ⟨52,[0,1],[oS 14],false⟩:=aQ Wc [oS 14] Wb func52 (by kernel_rfl) (lB (aS (F:=(Df q k)) underlying32 ad rfl) (lB (mw ad) (lB (aS (F:=(Df r l)) underlying32 ad rfl) (lB (mw ad) (lB (aS (F:=(Df q k)) underlying32 ad rfl) (lB (aS (F:=(Df r l)) underlying32 ad rfl) (lB (jg ad ad rfl) (lB (eg ad rfl) (lB (Pr (n:=(n+m-1)) (F:=(fun ι w v=>ι<0->af w v 0 K)) ad (fun i w h=>absurd h (by omega)) rfl) (lR (nt (e:=63) (sz:=4) (n:=(n+m-1)) (F:=(fun ι w v=>ι<0->af w v 0 K)) ad rfl) (lB (lS (n:=(n+m-1)) underlying32 ad rfl) (cm (counted (n+m-1) (fun j=>ph (lj q r n m k l K ++ VZ n m K j)) (fun _=>0) (fun j p hp=>cn (show p<(lj q r n m k l K).length from hp)) ⟨fun _=>rfl,ad,bS,trivial⟩ (fun j hj=>by
   skip
   exact ⟨(Ec,[.frm 24,.frm 23,.frm 0]),rfl,⟨ad,ad,bS,trivial⟩,(lB (bH ad ad) (lB (yK rfl rfl rfl) (lB (fL (i:=j) (sz:=4) (n:=(n+m-1)) (F:=(fun ι w v=>ι<j->af w v 0 K)) underlying32 (fun _ _ h=>aC.arr h) ad rfl rfl) (lB (iz (i:=j) (n:=(n+m-1)) (F:=(fun ι w v=>ι<j->af w v 0 K)) (F':=(fun ι w v=>ι<(j+1)->af w v 0 K)) (G:=Dw (aW 0 1) 6) (.tmp 29) (.tmp 30) ad ad ad rfl (fun _ _ h=>af.cells h) (fun _ _ _ _ g h=>VV.kp h g) (fun _ _ _ g h=>af.kp h g) (fun a w v ha h hi=>h (by omega)) (fun w v h _=>af.iE (h.eq VR) (Nat.pow_pos (by omega)) (gF hK1)) rfl) (lB (ct ad rfl) aD)))))⟩) (lB (tlF ad ad) aD)
   (fun q hq w v h=>by
    simp only [Eb,List.mem_cons,List.not_mem_nil,or_false] at hq
    rcases hq with rfl
    ·exact (fun h=>aC.to (sz:=4) (e:=63) (n:=(n+m-1)) (F:=(fun ι w v=>ι<(n+m-1)->af w v 0 K)) (G:=(Df (fg q r m 0) K)) h fun a w v ha h=>h ha) h)) (lB (aS (F:=(Df q k)) underlying32 ad rfl) (cm (counted n (fun j=>ph (lj q r n m k l K ++ vI q r n m K j)) (fun _=>0) (fun j p hp=>cn (show p<(lj q r n m k l K).length from hp)) ⟨fun _=>rfl,ad,bS,trivial⟩ (fun j hj=>by
   skip
   exact ⟨(Ea,[.frm 20,.frm 19,.frm 0]),rfl,⟨ad,ad,bS,trivial⟩,(lB (bH ad ad) (lB (aS (F:=(Df r l)) underlying32 ad rfl) (cm (counted m (fun i=>ph ((lj q r n m k l K ++ vI q r n m K j) ++ VW q r n m k l K j i)) (fun _=>0) (fun i p hp=>cn (show p<(lj q r n m k l K ++ vI q r n m K j).length from hp)) ⟨fun _=>rfl,fun _ _ h=>aC.to (sz:=4) (e:=63) (n:=(n+m-1)) (F:=(fun ι w v=>af w v (fg q r m j ι) K)) (G:=(fun ι w v=>af w v (db q r m j 0 ι) K)) h fun a w v ha h=>by rw [VS];exact h,bS,trivial⟩ (fun i hi=>by
   skip
   exact ⟨(DY,[.frm 42,.frm 41,.frm 0]),rfl,⟨ad,ad,bS,trivial⟩,(lB (bH ad ad) (lB (jg ad ad rfl) (lB (jg ad ad rfl) (lB (fL (i:=(j+i)) (sz:=4) (n:=(n+m-1)) (F:=(Df (db q r m j i) K)) underlying32 (fun _ _ h=>aC.arr h) ad rfl rfl) (lB (cU (sz:=4) (F:=Dw (db q r m j i (j+i)) K) ad (fun _ _ _ g h=>af.kp h g) (fun _ _ h=>af.is h) rfl) (lB (co (i:=j) (F:=(Df q k)) underlying32 ad ad rfl) (lB (cU (sz:=4) (F:=Dw (q j) k) ad (fun _ _ _ g h=>af.kp h g) (fun _ _ h=>af.is h) rfl) (lB (co (i:=i) (F:=(Df r l)) underlying32 ad ad rfl) (lB (cU (sz:=4) (F:=Dw (r i) l) ad (fun _ _ _ g h=>af.kp h g) (fun _ _ h=>af.is h) rfl) (lB (ze tS tS rfl rfl rfl rfl) (lB (eF [1] (yO tS tS rfl rfl rfl rfl)) (lB (fL (i:=(j+i)) (sz:=4) (n:=(n+m-1)) (F:=(Df (db q r m j i) K)) underlying32 (fun _ _ h=>aC.arr h) ad rfl rfl) (lB (iz (i:=(j+i)) (n:=(n+m-1)) (F:=(fun ι w v=>af w v (db q r m j i ι) K)) (F':=(fun ι w v=>af w v (db q r m j (i+1) ι) K)) (G:=Dw ((db q r m j i (j+i))+((q j)*(r i))) (3*(K+(2*(k+l)+2))+3)) (.tmp 44) (.tmp 47) ad ad ad rfl (fun _ _ h=>af.cells h) (fun _ _ _ _ g h=>af.kp h g) (fun _ _ _ g h=>af.kp h g) (fun a w v ha h=>by rw [VT ha];exact h) (fun w v h=>af.iE (h.eq VU) (hB j (i+1) (j+i) (by omega) (by omega)).1 (hB j (i+1) (j+i) (by omega) (by omega)).2) rfl) (lB (ct ad rfl) aD))))))))))))))⟩) (lB (tlF ad ad) aD)
   (fun q hq w v h=>by
    simp only [DX,List.mem_cons,List.not_mem_nil,or_false] at hq
    rcases hq with rfl
    ·exact (fun h=>h) h)) (lB (ct ad rfl) aD))))⟩) (lB (tlF ad ad) aD)
   (fun q hq w v h=>by
    simp only [DZ,List.mem_cons,List.not_mem_nil,or_false] at hq
    rcases hq with rfl
    ·exact (fun h=>h) h)) (lB (eF [1] (nC (q:=(fun ι=>fg q r m n ι)) (n:=(n+m-1)) (k:=K) (fun _ _ h=>aC.rw h) rfl)) aD)))))))))))))))
  (aM [.fact 0 (.one (.s)),.fact 1 (.one (.s))] ⟨Rw.Is 4 (Df q k) n,Rw.Is 4 (Df r l) m,trivial⟩) aV
def We (q r:Nat->Rat) (n m k l:Nat):List WP:=[Rw 4 (Df q k) n,Rw 4 (Df r l) m,Nz n]
def Wf:List Step:=[bQ [0] [oN 2] (aK 32),bQ [2,.lit (.ci .i64 0)] oT (au .eql)]
def Wg:List Out:=[oS 0,oS 1]
theorem Wh  (h1:n=0):aj (ph (We q r n m k l)) prog ⟨52,[0,1],[⟨.one (.lit (.nl)),[]⟩],false⟩:=aQ Wg [⟨.one (.lit (.nl)),[]⟩] Wf func52 (by kernel_rfl) (lB (aS (F:=(Df q k)) underlying32 ad rfl) (lB (qT ad) aD))
  (aM [.fact 0 (.one (.s)),.fact 1 (.one (.s))] ⟨Rw.Is 4 (Df q k) n,Rw.Is 4 (Df r l) m,trivial⟩) aV
def Wi (q r:Nat->Rat) (n m k l:Nat):List WP:=[Rw 4 (Df q k) n,Rw 4 (Df r l) m,Nz n,Nz m]
def Wj:List Step:=[bQ [0] [oN 2] (aK 32),bQ [2,.lit (.ci .i64 0)] oF (au .eql),bQ [1] [oN 3] (aK 32),bQ [3,.lit (.ci .i64 0)] oT (au .eql)]
def Wk:List Out:=[oS 0,oS 1]
theorem Wm  (h1:0<n) (h2:m=0):aj (ph (Wi q r n m k l)) prog ⟨52,[0,1],[⟨.one (.lit (.nl)),[]⟩],false⟩:=aQ Wk [⟨.one (.lit (.nl)),[]⟩] Wj func52 (by kernel_rfl) (lB (aS (F:=(Df q k)) underlying32 ad rfl) (lB (mw ad) (lB (aS (F:=(Df r l)) underlying32 ad rfl) (lB (qT ad) aD))))
  (aM [.fact 0 (.one (.s)),.fact 1 (.one (.s))] ⟨Rw.Is 4 (Df q k) n,Rw.Is 4 (Df r l) m,trivial⟩) aV
section
variable {Φ:PH}{p y x N:Nat}{c:Rat}
theorem Ed {X:Nat->Prop}{us:List Value}{sz:Nat}{F:PH} (hx:Φ x=Rw sz F 0) (h:ch Φ X w [⟨.one (.lit .nl),[]⟩] us):ch Φ X w [oS x] us:=by
 match us,h with
 | [u],h=>
  have e:u = .slice none 0 0:=h.1.1.1
  subst e
  exact cP ⟨⟨_,_,_,rfl⟩,fun _ h=>by cases h⟩ hx fun w1 _=>Rw.nil _ _ _
theorem Wn (hp:∀w v,Φ p w v->Rw 4 (Df q k) n w v) (hy:∀w v,Φ y w v->Rw 4 (Df r l) m w v) (hx:Φ x=Rw 4 (Df (fg q r m n) K) N) (hk:k<=8000) (hl:l<=8000) (hK:K<=8000) (hB:∀j i p,j<n->i<=m->Bd (db q r m j i p).num.natAbs K∧Bd (db q r m j i p).den K) (hN:(if n=0∨m=0 then 0 else tl (fun i=>(fg q r m n i).num) (n+m-1))=N) (hn:n<=400000:=by omega) (hm:m<=400000:=by omega) (hK1:1<=K:=by omega):aj Φ prog ⟨52,[.fact p,.fact y],[oS x],false⟩:=fun X w vs hX ha=>by
 rcases Nat.eq_zero_or_pos n with h1 | h1
 ·rw [if_pos (.inl h1)] at hN;subst hN
  exact (aT (outs:=[⟨.one (.lit .nl),[]⟩]) (Φ:=Φ) (ar:=[.fact p,.fact y]) (Wh (q:=q) (r:=r) (n:=n) (m:=m) (k:=k) (l:=l) h1) ⟨hp,hy,trivial⟩ ⟨⟨rfl,trivial⟩,trivial⟩ X w vs hX ha).mono fun e w' ⟨hg,us,he,h2⟩=>⟨hg,us,he,Ed hx h2⟩
 ·rcases Nat.eq_zero_or_pos m with h2 | h2
  ·rw [if_pos (.inr h2)] at hN;subst hN
   exact (aT (outs:=[⟨.one (.lit .nl),[]⟩]) (Φ:=Φ) (ar:=[.fact p,.fact y]) (Wm (q:=q) (r:=r) (n:=n) (m:=m) (k:=k) (l:=l) h1 h2) ⟨hp,hy,trivial⟩ ⟨⟨rfl,trivial⟩,trivial⟩ X w vs hX ha).mono fun e w' ⟨hg,us,he,h2⟩=>⟨hg,us,he,Ed hx h2⟩
  ·rw [if_neg (by omega)] at hN
   exact aT (Φ:=Φ) (ar:=[.fact p,.fact y]) (outs:=[⟨.one .s,[(0,0,x)]⟩]) (Wd (q:=q) (r:=r) (n:=n) (m:=m) (k:=k) (l:=l) hn hm hk hl hK hK1 h1 h2 hB) ⟨hp,hy,trivial⟩ ⟨⟨rfl,⟨rfl,rfl,fun _ _ h=>hx▸hN▸h⟩,trivial⟩,trivial⟩ X w vs hX ha
end
end Go.Proofs.YtbjfgffibepmkaaGreat.Sym
