/- poly.Sum, Product -/
import Derived.Test.YtomamliepbhegaaGreatPolL
namespace Go.Proofs.YtomamliepbhegaaGreat.Sym
open Go.RowKit
variable {n:Nat}
def eu (zz:Nat->Nat->Int) (ln:Nat->Nat):Nat->List Int
 | 0=>[1]
 | j+1=>mulL (ae (eu zz ln j)) (eu zz ln j).length (zz j) (ln j)
theorem tF {sz:Nat}{F:PH}{w:World}{v:Value} (h:Rw sz F n w v):∃p n c,v = .slice p n c:=by
 obtain ⟨p,c,rfl,_⟩:=h;exact ⟨_,_,_,rfl⟩
def yh (zz:Nat->Nat->Int) (ln:Nat->Nat) (n k c:Nat):List WP:=[Rw 1 (bS zz ln k) n,Ni 1,fun w v=>Rw 1 (fun i _ v=>v = .agg #[.int .i64 ((fun _=>1) i)]) 1 w v,Rw 2 (Nf (ae ([1])) 2) ([(1:Int)].length),Nz n,Rw 2 (Nf (ae (eu zz ln n)) (2+n*(k+c+1))) ((eu zz ln n).length)]
def aap (zz:Nat->Nat->Int) (ln:Nat->Nat) (k c:Nat) (j:Nat):List WP:=[Nz j,Rw 2 (Nf (ae (eu zz ln j)) (2+j*(k+c+1))) ((eu zz ln j).length),fun w v=>Ptr 1 (fun w v=>∃s,v = .agg #[s]∧Rw 2 (If (zz j) k) (ln j) w s) w v,Rw 2 (If (zz j) k) (ln j),fun w v=>Rw 2 (fun ι w v=>ai w v ((ae (eu zz ln (j+1))) ι) ((2+j*(k+c+1))+k+c+1)) ((eu zz ln (j+1)).length) w v,Nz (j+1)]
def Iy:bf:=⟨[0,2,6,7,8,9],[(.slot 10,.i),(.slot 3,.s)],[(.one 0,6),(.one 1,.bB [2] 7)],[.closed (.one (.ci .i64 0)),.frm 3],6,[(7,5)]⟩
def Iz:List Step:=[bQ [6,4] oT (ak .lss),bQ [0,6] [oP 8] (aH 59),bQ [8] [oS 9] (aI 28),.base ⟨17,[7,9],[oS 10],.cC [2] false⟩,bQ [6,.lit (.ci .i64 1)] [oN 11] (ak .add)]
def aaq:List Step:=[bQ [6,4] oF (ak .lss)]
def aar:List Step:=[.derive (.one (.ci .i64 1)) (.one (.lit (.ci .i64 1))) [] 1,.base ⟨0,[.any,1],[oS 2],.loose [] 2 0 (dq 22 1)⟩,.base ⟨20,[2],[oS 3],.cC [2] false⟩,bQ [0] [oN 4] (aC 59),.loop Iy [(Iz,[.frm 11,.frm 10])] aaq]
def aas:List Out:=[oS 0]
set_option maxRecDepth 100000 in
theorem aat {zz:Nat->Nat->Int}{ln:Nat->Nat}{k c:Nat} (hn:n<=1000) (hk:k<=10000) (hcc:c<=1000) (hnk:n*(k+c+1)<=50000) (hln:∀i,i<n->ln i<=100000) (hc:∀j,j<n->(eu zz ln j).length<=c):aj (ph (yh zz ln n k c)) Tryz.prog ⟨36,[0],[oS 5],false⟩:=aV aas [oS 5] aar Tryz.func36 (by kernel_rfl) (ej (gE rfl) (lB (tD (a:=1) ad rfl) (lB (cS [2] (kX (z:=fun _=>1) (n:=1) ad rfl (fun _=>by omega))) (lB (aJ (F:=(bS zz ln k)) Tryz.underlying59 ad rfl) (bk (counted n (fun j=>ph (yh zz ln n k c ++ aap zz ln k c j)) (fun _=>0) (fun j p hp=>bm (show p<(yh zz ln n k c).length from hp)) ⟨fun _=>rfl,fun _ _ h=>Rw.to (sz:=2) (n:=[(1:Int)].length) (F:=Nf (ae [1]) 2) (G:=Nf (ae (eu zz ln 0)) (2+0*(k+c+1))) h fun _ _ _ _ h=>h.more (by omega),trivial⟩ (fun j hj=>by
   have h1:(j+1)*(k+c+1)=j*(k+c+1)+k+c+1:=by rw [Nat.succ_mul];omega
   have h2:j*(k+c+1)<=n*(k+c+1):=Nat.mul_le_mul_right _ (by omega)
   have h3:=hln j hj
   have h4:=hc j hj
   exact ⟨(Iz,[.frm 11,.frm 10]),rfl,⟨ad,fun _ _ h=>Rw.to (sz:=2) (n:=(eu zz ln (j+1)).length) (F:=fun ι w v=>ai w v (ae (eu zz ln (j+1)) ι) (2+j*(k+c+1)+k+c+1)) (G:=fun ι w v=>ai w v (ae (eu zz ln (j+1)) ι) (2+(j+1)*(k+c+1))) h fun _ _ _ _ h=>h.more (by omega),trivial⟩,(lB (bT ad ad) (lB (bz (i:=j) (F:=(bS zz ln k)) Tryz.underlying59 ad ad rfl) (lB (nV ad (fun _ _ h=>tF h) rfl) (lB (cS [2] (aam (c:=c) (z:=(ae (eu zz ln j))) (n:=(eu zz ln j).length) (y:=(zz j)) (m:=(ln j)) (Rw.To 2 (Nf (ae (eu zz ln j)) (2+j*(k+c+1))) ((eu zz ln j).length) (fun _ _ _ _ h=>ai.i h)) (Rw.To 2 (If (zz j) k) (ln j) (fun _ _ _ _ h=>h)) rfl rfl)) (lB (ce ad rfl) au)))))⟩) (lB (tlF ad ad) au)
   (fun q hq w v h=>by
    simp only [Iy,List.mem_cons,List.not_mem_nil,or_false] at hq
    rcases hq with rfl
    ·exact (fun h=>h) h)) au)))))
  (aK [.fact 0 (.one (.s))] ⟨Rw.Is 1 (bS zz ln k) n,trivial⟩) bg
section
variable {Φ:PH}{p x k c:Nat}{zz:Nat->Nat->Int}{ln:Nat->Nat}{L:List Int}
theorem Hf (hp:∀w v,Φ p w v->Rw 1 (bS zz ln k) n w v) (hx:Φ x=Rw 2 (Nf (ae L) (2+n*(k+c+1))) L.length) (hnk:n*(k+c+1)<=50000) (hln:∀i,i<n->ln i<=100000) (hc:∀j,j<n->(eu zz ln j).length<=c) (hL:eu zz ln n=L) (hn:n<=1000:=by omega) (hk:k<=10000:=by omega) (hcc:c<=1000:=by omega):aj Φ Tryz.prog ⟨36,[.fact p],[oS x],false⟩:=
 aW (aat hn hk hcc hnk hln hc) ⟨hp,trivial⟩ ⟨⟨rfl,⟨rfl,rfl,fun _ _ h=>hx▸hL▸h⟩,trivial⟩,trivial⟩
end
end Go.Proofs.YtomamliepbhegaaGreat.Sym
