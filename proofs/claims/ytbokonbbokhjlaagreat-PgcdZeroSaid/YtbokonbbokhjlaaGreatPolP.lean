/- poly.Sum, Product. -/
import Derived.Test.YtbokonbbokhjlaaGreatPolL
namespace Go.Proofs.YtbokonbbokhjlaaGreat.Sym
open Go.RowKit
def dZ (zz:Nat->Nat->Int) (ln:Nat->Nat):Nat->List Int
 | 0=>[1]
 | j+1=>mulL (ae (dZ zz ln j)) (dZ zz ln j).length (zz j) (ln j)
theorem qU {sz n:Nat}{F:PH}{w:World}{v:Value} (h:Rw sz F n w v):∃p n c,v = .slice p n c:=by
 obtain ⟨p,c,rfl,_⟩:=h;exact ⟨_,_,_,rfl⟩
def vF (zz:Nat->Nat->Int) (ln:Nat->Nat) (n k c:Nat):List WP:=[Rw 1 (bf zz ln k) n,Ni 1,fun w v=>Rw 1 (fun i _ v=>v = .agg #[.int .i64 ((fun _=>1) i)]) 1 w v,Rw 2 (Nf (ae ([1])) 2) ([(1:Int)].length),Nz n,Rw 2 (Nf (ae (dZ zz ln n)) (2+n*(k+c+1))) ((dZ zz ln n).length)]
def Ta (zz:Nat->Nat->Int) (ln:Nat->Nat) (k c:Nat) (j:Nat):List WP:=[Nz j,Rw 2 (Nf (ae (dZ zz ln j)) (2+j*(k+c+1))) ((dZ zz ln j).length),fun w v=>Ptr 1 (fun w v=>∃s,v = .agg #[s]∧Rw 2 (If (zz j) k) (ln j) w s) w v,Rw 2 (If (zz j) k) (ln j),fun w v=>Rw 2 (fun ι w v=>af w v ((ae (dZ zz ln (j+1))) ι) ((2+j*(k+c+1))+k+c+1)) ((dZ zz ln (j+1)).length) w v,Nz (j+1)]
def DG:bg:=⟨[0,2,6,7,8,9],[(.slot 10,.i),(.slot 3,.s)],[(.one 0,6),(.one 1,.Ru [2] 7)],[.closed (.one (.ci .i64 0)),.frm 3],6,[(7,5)]⟩
def DH:List Step:=[bQ [.fact 6,.fact 4] oT (ak .lss),
   bQ [.fact 0,.fact 6] [oP 8] (aG 41),
   bQ [.fact 8] [oS 9] (aM 28),
   .base ⟨29,[.fact 7,.fact 9],[oS 10],.cE [2] false⟩,
   bQ [.fact 6,.lit (.ci .i64 1)] [oN 11] (ak .add)]
def Tb:List Step:=[bQ [.fact 6,.fact 4] oF (ak .lss)]
def Tc:List Step:=[.derive (.one (.ci .i64 1)) (.one (.lit (.ci .i64 1))) [] 1,
   .base ⟨0,[.any,.fact 1],[oS 2],.loose [] 2 0 (cj 22 1)⟩,
   .base ⟨27,[.fact 2],[oS 3],.cE [2] false⟩,
   bQ [.fact 0] [oN 4] (aD 41),
   .loop DG [(DH,[.frm 11,.frm 10])] Tb]
def Te:List Out:=[oS 0]
set_option maxRecDepth 100000 in
theorem Tf {zz:Nat->Nat->Int}{ln:Nat->Nat}{n k c:Nat} (hn:n<=1000) (hk:k<=10000) (hcc:c<=1000) (hnk:n*(k+c+1)<=50000) (hln:∀i,i<n->ln i<=100000) (hc:∀j,j<n->(dZ zz ln j).length<=c):ai (ph (vF zz ln n k c)) Tryz.prog ⟨36,[.fact 0],[oS 5],false⟩:=by
 skip
 exact aV Te [oS 5] Tc Tryz.func36 (by kernel_rfl)
  (ec (ij rfl)
   (lB (qR (a:=1) ad rfl)
   (lB (de [2] (gO (z:=fun _=>1) (n:=1) ad rfl (by omega) (fun _=>by omega) (by decide)))
   (lB (aP (F:=(bf zz ln k)) Tryz.underlying41 ad rfl)
   (bz (counted n (fun j=>ph (vF zz ln n k c ++ Ta zz ln k c j)) (fun _=>0) (fun j p hp=>bB (show p<(vF zz ln n k c).length from hp)) ⟨fun _=>rfl,fun _ _ h=>Rw.to (sz:=2) (n:=[(1:Int)].length) (F:=Nf (ae [1]) 2) (G:=Nf (ae (dZ zz ln 0)) (2+0*(k+c+1))) h fun _ _ _ _ h=>h.more (by omega),trivial⟩ (fun j hj=>by
   have h1:(j+1)*(k+c+1)=j*(k+c+1)+k+c+1:=by rw [Nat.succ_mul];omega
   have h2:j*(k+c+1)<=n*(k+c+1):=Nat.mul_le_mul_right _ (by omega)
   have h3:=hln j hj
   have h4:=hc j hj
   exact ⟨(DH,[.frm 11,.frm 10]),rfl,⟨ad,fun _ _ h=>Rw.to (sz:=2) (n:=(dZ zz ln (j+1)).length) (F:=fun ι w v=>af w v (ae (dZ zz ln (j+1)) ι) (2+j*(k+c+1)+k+c+1)) (G:=fun ι w v=>af w v (ae (dZ zz ln (j+1)) ι) (2+(j+1)*(k+c+1))) h fun _ _ _ _ h=>h.more (by omega),trivial⟩,(lB (cU ad ad)
   (lB (bZ (i:=j) (F:=(bf zz ln k)) Tryz.underlying41 (by kernel_rfl) ad ad (by omega) rfl)
   (lB (mj (by kernel_rfl) ad (fun _ _ h=>qU h) rfl)
   (lB (de [2] (SZ (c:=c) (z:=(ae (dZ zz ln j))) (n:=(dZ zz ln j).length) (y:=(zz j)) (m:=(ln j)) (Rw.To 2 (Nf (ae (dZ zz ln j)) (2+j*(k+c+1))) ((dZ zz ln j).length) (fun _ _ _ _ h=>af.i h)) (Rw.To 2 (If (zz j) k) (ln j) (fun _ _ _ _ h=>h)) rfl (by omega) (by omega) (by omega) (by omega) (by omega) rfl))
   (lB (cN ad (by omega) rfl (by omega) (by omega))
   aw)))))⟩)
   (lB (tlF ad ad)
   aw)
   (fun q hq w v h=>by
    simp only [DG,List.mem_cons,List.not_mem_nil,or_false] at hq
    rcases hq with rfl
    ·exact (fun h=>h) h)) aw)))))
  (aL [.fact 0 (.one (.s))] ⟨Rw.Is 1 (bf zz ln k) n,trivial⟩) bc
section
variable {Φ:PH}{p x n k c:Nat}{zz:Nat->Nat->Int}{ln:Nat->Nat}{L:List Int}
theorem C3 (hp:∀w v,Φ p w v->Rw 1 (bf zz ln k) n w v) (hx:Φ x=Rw 2 (Nf (ae L) (2+n*(k+c+1))) L.length) (hn:n<=1000) (hk:k<=10000) (hcc:c<=1000) (hnk:n*(k+c+1)<=50000) (hln:∀i,i<n->ln i<=100000) (hc:∀j,j<n->(dZ zz ln j).length<=c) (hL:dZ zz ln n=L):ai Φ Tryz.prog ⟨36,[.fact p],[oS x],false⟩:=
 aW (Tf hn hk hcc hnk hln hc) ⟨hp,trivial⟩ ⟨⟨rfl,⟨rfl,rfl,fun _ _ h=>hx▸hL▸h⟩,trivial⟩,trivial⟩
end
end Go.Proofs.YtbokonbbokhjlaaGreat.Sym
