/- pdiv.Pseudo; Exact where it comes out even. pdiv.Exact where it does not come out even. -/
import Derived.Test.YtbokonbbokhjlaaGreatDivC
set_option maxRecDepth 100000
namespace Go.Proofs.YtbokonbbokhjlaaGreat.Sym
open Go.RowKit
section
variable {Φ:PH}{p x n m k:Nat}{z:Nat->Int}{L:List Int}
theorem pJ (hp:∀w v,Φ p w v->Rw 2 (If z k) n w v) (hx:Φ x=Rw 2 (Nf (ae L) k) m) (hn:n<=1000000) (hk:k<=500000) (hL:be (mk n z)=L) (hm:L.length=m):ai Φ Tryz.prog ⟨112,[.fact p],[oS x],false⟩:=by
 subst hm
 exact GS hp hx hn hk hL
end
section
variable {Φ:PH}{p q x n l k:Nat}{z:Nat->Int}{L:List Int}
theorem xB (hp:∀w v,Φ p w v->Rw 2 (If z k) l w v) (hq:∀w v,Φ q w v->v = .int .i64 (n:Int)) (hx:Φ x=Rw 2 (Nf (ae L) k) L.length) (hn:l<=1000000) (hk:k<=500000) (hL:be (mk (min n l) z)=L):ai Φ Tryz.prog ⟨124,[.fact p,.fact q],[oS x],false⟩:=
 aW (fO.call (GT (z:=z) (n:=n) (l:=l) hn hk)) ⟨hp,hq,trivial⟩ ⟨⟨rfl,⟨rfl,rfl,fun _ _ h=>hx▸hL▸ah.rw (e:=52) h⟩,trivial⟩,trivial⟩
end
section
variable {T:Nat->Int}{c:Int}{i j:Nat}
end
def jx (A y:Nat->Int) (x:Int) (i k p:Nat):Int:=if i<=p∧p<i+k then A p-x*y (p-i) else A p
def aJ (z y:Nat->Int) (n m:Nat) (c:Int):Nat->Nat->Int
 | 0=>z
 | j+1=>jx (aJ z y n m c j) y (aJ z y n m c j (m-1-j+n) / c) (m-1-j) n
def exM (z y:Nat->Int) (n m:Nat) (c:Int) (j k:Nat):Nat->Int:=jx (aJ z y n m c j) y (aJ z y n m c j (m-1-j+n) / c) (m-1-j) k
def exT (z y:Nat->Int) (n m:Nat) (c:Int) (p:Nat):Int:=aJ z y n m c (m-1-p) (p+n) / c
section
variable {z y:Nat->Int}{n m i j p:Nat}{c:Int}
theorem sd:exM z y n m c j 0 p=aJ z y n m c j p:=if_neg (by omega)
theorem se (h:p≠m-1-j+i):exM z y n m c j (i+1) p=exM z y n m c j i p:=by
 unfold exM jx
 split <;> split <;> first | rfl | omega
theorem sf (hj:j<m):aJ z y n m c j (m-1-j+n) / c=dto m (j+1) (exT z y n m c) (m-1-j):=by
 unfold dto exT
 rw [if_pos (by omega),show m-1-(m-1-j)=j by omega]
theorem si (_:j<m):exM z y n m c j i (m-1-j+i)-(aJ z y n m c j (m-1-j+n) / c)*y i=exM z y n m c j (i+1) (m-1-j+i):=by
 unfold exM jx
 rw [if_neg (by omega),if_pos (by omega),show m-1-j+i-(m-1-j)=i by omega]
end
def ny (z0 z1:Nat->Int) (n0 n1 k k1 nb m K:Nat) (c:Int) (Z Y:List Int):List WP:=[Rw 2 (If z0 k) n0,Rw 2 (If z1 k1) n1,ah 2 52 (Nf (ae Z) k) Z.length,Rw 2 (Nf (ae Y) k1) (nb+1),Nz (nb+1),Nz nb,Nw c k1,b9 Z.length,Ni ((Z.length:Nat):Int),Ni (((Z.length:Nat):Int)-((nb:Nat):Int)),Nz m,ah 2 52 (Nf (dto m 0 (exT (ae Z) (ae Y) nb m c)) K) m,b9 m,Nz m,Ni (((m:Nat):Int)-1),ah 2 52 (Nf (aJ (ae Z) (ae Y) nb m c m) K) Z.length,ah 2 52 (Nf (dto m m (exT (ae Z) (ae Y) nb m c)) K) m,Rw 2 (Nf (ae []) K) 0,Nz 0]
def GU (k1 nb m K:Nat) (c:Int) (Z Y:List Int) (j i:Nat):List WP:=[Nz i,ah 2 52 (Nf (exM (ae Z) (ae Y) nb m c j i) K) Z.length,fun _ _=>True,Ptr 2 (Nw ((ae Y) i) k1),Nw ((ae Y) i) k1,Nz (m-1-j+i),Nz (m-1-j+i),At 2,Ptr 2 (Nw ((exM (ae Z) (ae Y) nb m c j i) (m-1-j+i)) K),Nw ((exM (ae Z) (ae Y) nb m c j i) (m-1-j+i)) K,Nw ((((aJ (ae Z) (ae Y) nb m c j) (m-1-j+nb)) / c)*((ae Y) i)) (K+k1),Nw (((exM (ae Z) (ae Y) nb m c j i) (m-1-j+i))-((((aJ (ae Z) (ae Y) nb m c j) (m-1-j+nb)) / c)*((ae Y) i))) (K+(K+k1)+1),At 2,Ptr 2 (Nw ((exM (ae Z) (ae Y) nb m c j i) (m-1-j+i)) K),fun w v=>ah 2 52 (fun ι w v=>af w v ((exM (ae Z) (ae Y) nb m c j (i+1)) ι) K) Z.length w v,Nz (i+1)]
def xC:bg:=⟨[0,1,4,5,7,8,9,10,11,12,15,16,17,18,19,20,21,22,23,24,25,26,27,28,29,30,31,32,33,34,35,36,39,40,41,42,43,44,45,46,47,48,49,50,51,53,54,55,56,57,58,59,60],[(.slot 61,.i),(.slot 6,.s)],[(.one 0,36),(.one 1,.Ru [1] 37),(.one 1,.lo 1)],[.closed (.one (.ci .i64 0)),.frm 20,.frm 0],36,[(37,34)]⟩
def xD:List Step:=[bQ [.fact 36,.fact 33] oT (ak .lss),
   bQ [.fact 32,.fact 36] [oP 39] (aG 28),
   bQ [.fact 39] [oI 40] (aM 52),
   bQ [.fact 19,.fact 36] [oN 41] (ak .add),
   bQ [.fact 19,.fact 36] [oN 42] (ak .add),
   .base ⟨0,[.fact 37,.fact 42],[oP 44],.joint [1] 43 (aG 28)⟩,
   .base ⟨0,[.fact 44],[oI 45],.dd [1] (aM 52)⟩,
   .base ⟨63,[.fact 28,.fact 40],[oI 46],false⟩,
   .base ⟨94,[.fact 45,.fact 46],[oI 47],false⟩,
   .base ⟨0,[.fact 37,.fact 41],[oP 49],.joint [1] 48 (aG 28)⟩,
   .base ⟨0,[.fact 37,.fact 41,.any,.fact 47],[oS 50],.put [] 1 0 48 (dV 52 (.tmp 66) (.tmp 69))⟩,
   bQ [.fact 36,.lit (.ci .i64 1)] [oN 51] (ak .add)]
def GV:List Step:=[bQ [.fact 36,.fact 33] oF (ak .lss)]
def sj (k1 nb m K:Nat) (c:Int) (Z Y:List Int) (j:Nat):List WP:=[Ni (((m:Nat):Int)-1-((j:Nat):Int)),ah 2 52 (Nf (aJ (ae Z) (ae Y) nb m c j) K) Z.length,fun _ _=>True,ah 2 52 (Nf (dto m j (exT (ae Z) (ae Y) nb m c)) K) m,fun _ _=>True,Nz (m-1-j+nb),At 2,Ptr 2 (Nw ((aJ (ae Z) (ae Y) nb m c j) (m-1-j+nb)) K),Nw ((aJ (ae Z) (ae Y) nb m c j) (m-1-j+nb)) K,Nw (((aJ (ae Z) (ae Y) nb m c j) (m-1-j+nb)) / c) K,At 2,Ptr 2 (Nw ((dto m j (exT (ae Z) (ae Y) nb m c)) (m-1-j)) K),fun w v=>ah 2 52 (fun ι w v=>af w v ((dto m (j+1) (exT (ae Z) (ae Y) nb m c)) ι) K) m w v,Rw 2 (Nf (ae Y) k1) nb,Nz nb,fun w v=>ah 2 52 (fun ι w v=>af w v ((aJ (ae Z) (ae Y) nb m c (j+1)) ι) K) Z.length w v,Ni ((((m:Nat):Int)-1-((j:Nat):Int))-1)]
def xE:bg:=⟨[0,1,4,5,7,8,15,16,17,18,19,20,21,22,23,24,25,26,27,28,29,30,31,32,33,34],[(.slot 10,.i),(.slot 6,.s),(.slot 9,.s)],[(.one 0,19),(.one 1,.Ru [1] 20),(.one 1,.lo 1),(.one 2,.Ru [2] 22),(.one 2,.lo 2)],[.frm 14,.frm 2,.frm 0,.frm 11,.frm 0],19,[(20,15),(22,16)]⟩
def xF:List Step:=[bQ [.fact 19,.lit (.ci .i64 0)] oT (ak .geq),
   bQ [.fact 19,.fact 5] [oN 24] (ak .add),
   .base ⟨0,[.fact 20,.fact 24],[oP 26],.joint [1] 25 (aG 28)⟩,
   .base ⟨0,[.fact 26],[oI 27],.dd [1] (aM 52)⟩,
   .base ⟨113,[.fact 27,.fact 6],[oI 28,oL (.ci .i64 0)],true⟩,
   .base ⟨0,[.fact 22,.fact 19],[oP 30],.joint [2] 29 (aG 28)⟩,
   .base ⟨0,[.fact 22,.fact 19,.any,.fact 28],[oS 31],.put [] 2 0 29 (dV 52 (.tmp 53) (.tmp 54))⟩,
   bQ [.fact 3,.fact 5] [oS 32] (dI 28),
   bQ [.fact 32] [oN 33] (aD 28),
   .loop xC [(xD,[.frm 51,.frm 50,.frm 0])] GV,
   bQ [.fact 19,.lit (.ci .i64 1)] [oN 35] (ak .sub)]
def GW:List Step:=[bQ [.fact 19,.lit (.ci .i64 0)] oF (ak .geq)]
def GX:List Step:=[.base ⟨112,[.fact 0],[oS 2],.cu [] 1⟩,
   .base ⟨112,[.fact 1],[oS 3],false⟩,
   bQ [.fact 3] [oN 4] (aD 28),
   bQ [.fact 4,.lit (.ci .i64 0)] oF (ak .eql),
   .base ⟨49,[.fact 3],[oN 5],false⟩,
   .base ⟨33,[.fact 3],[oI 6],false⟩,
   .freed (.one (.s 4 0)) 2 7,
   bQ [.fact 7] [oN 8] (aD 28),
   bQ [.fact 8,.fact 5] [oN 9] (ak .sub),
   bQ [.lit (.ci .i64 0),.fact 9] [oN 10] (gm .max),
   .base ⟨0,[.fact 10,.fact 10],[oS 11],.loose [] 2 0 (fp 28)⟩,
   .freed (.one (.s 24 0)) 11 12,
   bQ [.fact 12] [oN 13] (aD 28),
   bQ [.fact 13,.lit (.ci .i64 1)] [oN 14] (ak .sub),
   .loop xE [(xF,[.frm 35,.frm 34,.frm 0,.frm 31,.frm 0])] GW,
   .base ⟨124,[.fact 15,.fact 5],[oS 17],.cE [1] false⟩,
   .base ⟨0,[.fact 17],[oN 18],.iK [1] (aD 28)⟩,
   .base ⟨0,[.fact 18,.lit (.ci .i64 0)],oF,.iK [1] (ak .gtr)⟩]
def GY:List Out:=[oS 0,oS 1]
theorem xG {z0 z1:Nat->Int}{n0 n1 k k1 nb m K:Nat}{c:Int}{Z Y:List Int} (hn0:n0<=1000000) (hn1:n1<=1000000) (hk:k<=90000) (hk1:k1<=90000) (hY:be (mk n1 z1)=Y) (hkK:k<=K) (hYl:Y.length=nb+1) (hnb:nb<=800000) (hZ:be (mk n0 z0)=Z) (hZl:Z.length<=1000000) (hm:m=Z.length-nb) (hK:K<=90000) (hc:cD (ae Y) (nb+1)=c) (hc0:c≠0) (hdv:∀j,j<m->c∣aJ (ae Z) (ae Y) nb m c j (m-1-j+nb)) (hM:∀j i p,j<m->Bd (exM (ae Z) (ae Y) nb m c j i p).natAbs K) (hL2:be (mk (min nb Z.length) (aJ (ae Z) (ae Y) nb m c m)) = []):ai (ph (ny z0 z1 n0 n1 k k1 nb m K c Z Y)) Tryz.prog ⟨93,[.fact 0,.fact 1],[oS 16,oL (.ci .i64 0)],true⟩:=by
 skip
 exact aV GY [oS 16,oL (.ci .i64 0)] GX Tryz.func93 (by kernel_rfl)
  (lB (mm (Rw.To 2 (If z0 k) n0 (fun _ _ _ _ h=>h)) rfl (by omega) (by omega) hZ)
   (lB (pJ (L:=Y) (m:=(nb+1)) (Rw.To 2 (If z1 k1) n1 (fun _ _ _ _ h=>h)) rfl (by omega) (by omega) hY hYl)
   (lB (aP (F:=(Nf (ae Y) k1)) Tryz.underlying28 ad rfl)
   (lB (bW (op:=.eql) ad (bN (show decide ((((nb+1):Nat):Int)=0)=false from decide_eq_false (by omega)) (by simp)))
   (lB (iL (n:=(nb+1)) (fun _ _ h=>Rw.iM (sz:=2) (F:=(Nf (ae Y) k1)) (n:=(nb+1)) h) rfl (by omega) (by omega))
   (lB (iJ (z:=(ae Y)) (n:=(nb+1)) (Rw.To 2 (Nf (ae Y) k1) (nb+1) (fun _ _ _ _ h=>af.i h)) rfl (by omega) (by omega) (hc))
   (cV (cW (e:=52) (sz:=2) (n:=Z.length) (F:=(Nf (ae Z) k)) ad rfl)
   (lB (ce (n:=Z.length) Tryz.underlying28 ad rfl)
   (lB (mn ad ad (rfl) rfl (by omega) (by omega))
   (lB (sk ad (by split <;> omega) rfl)
   (lB (gZ (n:=m) (F:=(fun ι w v=>af w v ((dto m 0 (exT (ae Z) (ae Y) nb m c)) ι) K)) ad (by omega) (fun i w=>by rw [sm];exact af.zero w K) rfl)
   (cV (cW (e:=52) (sz:=2) (n:=m) (F:=(Nf (dto m 0 (exT (ae Z) (ae Y) nb m c)) K)) ad rfl)
   (lB (ce (n:=m) Tryz.underlying28 ad rfl)
   (lB (bK ad (rfl) rfl (by omega) (by omega))
   (bz (counted m (fun j=>ph (ny z0 z1 n0 n1 k k1 nb m K c Z Y ++ sj k1 nb m K c Z Y j)) (fun _=>0) (fun j p hp=>bB (show p<(ny z0 z1 n0 n1 k k1 nb m K c Z Y).length from hp)) ⟨fun _ _ h=>h.trans (congrArg (Value.int .i64) (by omega)),fun _ _ h=>ah.to (sz:=2) (e:=52) (n:=Z.length) (F:=Nf (ae Z) k) (G:=(Nf (aJ (ae Z) (ae Y) nb m c 0) K)) h fun a w v ha h=>af.more h (by omega),aS,ad,aS,trivial⟩ (fun j hj=>by
   skip
   exact ⟨(xF,[.frm 35,.frm 34,.frm 0,.frm 31,.frm 0]),rfl,⟨fun _ _ h=>h.trans (congrArg (Value.int .i64) (by omega)),ad,aS,ad,aS,trivial⟩,(lB (kW ad)
   (lB (fm ad ad (by omega) rfl (by omega) (by omega))
   (lB (bI (i:=(m-1-j+nb)) (sz:=2) (n:=Z.length) (F:=(Nf (aJ (ae Z) (ae Y) nb m c j) K)) Tryz.underlying28 (by kernel_rfl) (fun _ _ h=>ah.arr h) ad (by omega) rfl rfl)
   (lB (ff (sz:=2) (F:=Nw ((aJ (ae Z) (ae Y) nb m c j) (m-1-j+nb)) K) (by kernel_rfl) (by kernel_rfl) ad (fun _ _ _ g h=>af.kp h g) (fun _ _ h=>af.is h) rfl)
   (lB (pH nI nI rfl (by omega) (hc0) (hdv j hj) rfl)
   (lB (bI (i:=(m-1-j)) (sz:=2) (n:=m) (F:=(Nf (dto m j (exT (ae Z) (ae Y) nb m c)) K)) Tryz.underlying28 (by kernel_rfl) (fun _ _ h=>ah.arr h) (fun _ _ h=>h.trans (congrArg (Value.int .i64) (by omega))) (by omega) rfl rfl)
   (lB (fo (i:=(m-1-j)) (n:=m) (F:=(fun ι w v=>af w v ((dto m j (exT (ae Z) (ae Y) nb m c)) ι) K)) (F':=(fun ι w v=>af w v ((dto m (j+1) (exT (ae Z) (ae Y) nb m c)) ι) K)) (G:=Nw (((aJ (ae Z) (ae Y) nb m c j) (m-1-j+nb)) / c) K) (.tmp 53) (.tmp 54) (by kernel_rfl) ad (fun _ _ h=>h.trans (congrArg (Value.int .i64) (by omega))) (by omega) ad rfl (fun _ _ h=>af.cells h) (fun _ _ _ _ g h=>af.kp h g) (fun _ _ _ g h=>af.kp h g) (fun i w v hi h=>by rw [sn (by omega) hi];exact h) (fun w v h=>h.eq (sf hj)) rfl)
   (lB (jX (m:=nb) (n:=(nb+1)) (F:=(Nf (ae Y) k1)) Tryz.underlying28 (by kernel_rfl) ad ad (by first | omega | exact aF _ _) rfl)
   (lB (aP (F:=(Nf (ae Y) k1)) Tryz.underlying28 ad rfl)
   (bz (counted nb (fun i=>ph ((ny z0 z1 n0 n1 k k1 nb m K c Z Y ++ sj k1 nb m K c Z Y j) ++ GU k1 nb m K c Z Y j i)) (fun _=>0) (fun i p hp=>bB (show p<(ny z0 z1 n0 n1 k k1 nb m K c Z Y ++ sj k1 nb m K c Z Y j).length from hp)) ⟨fun _=>rfl,fun _ _ h=>ah.to (sz:=2) (e:=52) (n:=Z.length) (F:=(fun ι w v=>af w v ((aJ (ae Z) (ae Y) nb m c j) ι) K)) (G:=(fun ι w v=>af w v ((exM (ae Z) (ae Y) nb m c j 0) ι) K)) h fun a w v ha h=>by rw [sd];exact h,aS,trivial⟩ (fun i hi=>by
   skip
   exact ⟨(xD,[.frm 51,.frm 50,.frm 0]),rfl,⟨ad,ad,aS,trivial⟩,(lB (cU ad ad)
   (lB (bZ (i:=i) (F:=(Nf (ae Y) k1)) Tryz.underlying28 (by kernel_rfl) ad ad (by omega) rfl)
   (lB (dW (sz:=2) (F:=Nw ((ae Y) i) k1) (by kernel_rfl) (by kernel_rfl) ad (fun _ _ _ g h=>af.kp h g) (fun _ _ h=>af.is h) rfl)
   (lB (fm ad ad (by omega) rfl (by omega) (by omega))
   (lB (fm ad ad (by omega) rfl (by omega) (by omega))
   (lB (bI (i:=(m-1-j+i)) (sz:=2) (n:=Z.length) (F:=(Nf (exM (ae Z) (ae Y) nb m c j i) K)) Tryz.underlying28 (by kernel_rfl) (fun _ _ h=>ah.arr h) ad (by omega) rfl rfl)
   (lB (ff (sz:=2) (F:=Nw ((exM (ae Z) (ae Y) nb m c j i) (m-1-j+i)) K) (by kernel_rfl) (by kernel_rfl) ad (fun _ _ _ g h=>af.kp h g) (fun _ _ h=>af.is h) rfl)
   (lB (g9 nI nI rfl (by omega) rfl)
   (lB (pK nI nI rfl (by omega) rfl)
   (lB (bI (i:=(m-1-j+i)) (sz:=2) (n:=Z.length) (F:=(Nf (exM (ae Z) (ae Y) nb m c j i) K)) Tryz.underlying28 (by kernel_rfl) (fun _ _ h=>ah.arr h) ad (by omega) rfl rfl)
   (lB (fo (i:=(m-1-j+i)) (n:=Z.length) (F:=(fun ι w v=>af w v ((exM (ae Z) (ae Y) nb m c j i) ι) K)) (F':=(fun ι w v=>af w v ((exM (ae Z) (ae Y) nb m c j (i+1)) ι) K)) (G:=Nw (((exM (ae Z) (ae Y) nb m c j i) (m-1-j+i))-((((aJ (ae Z) (ae Y) nb m c j) (m-1-j+nb)) / c)*((ae Y) i))) (K+(K+k1)+1)) (.tmp 66) (.tmp 69) (by kernel_rfl) ad ad (by omega) ad rfl (fun _ _ h=>af.cells h) (fun _ _ _ _ g h=>af.kp h g) (fun _ _ _ g h=>af.kp h g) (fun a w v ha h=>by rw [se ha];exact h) (fun w v h=>af.re (h.eq (si hj)) (hM j (i+1) _ (by omega))) rfl)
   (lB (cN ad (by omega) rfl (by omega) (by omega))
   aw))))))))))))⟩)
   (lB (tlF ad ad)
   aw)
   (fun q hq w v h=>by
    simp only [xC,List.mem_cons,List.not_mem_nil,or_false] at hq
    rcases hq with rfl
    ·exact (fun h=>h) h)) (lB (bK ad (rfl) rfl (by omega) (by omega))
   aw)))))))))))⟩)
   (lB (chF ad)
   aw)
   (fun q hq w v h=>by
    simp only [xE,List.mem_cons,List.not_mem_nil,or_false] at hq
    rcases hq with rfl | rfl
    ·exact (fun h=>h) h
    ·exact (fun h=>h) h)) (lB (de [1] (xB (L:=[]) (z:=(aJ (ae Z) (ae Y) nb m c m)) (l:=Z.length) (fun _ _ h=>Rw.to (sz:=2) (n:=Z.length) (F:=(Nf (aJ (ae Z) (ae Y) nb m c m) K)) (ah.rw h) (fun _ _ _ _ h=>af.i h)) ad rfl (by omega) (by omega) hL2))
   (lB (aP (F:=(Nf (ae []) K)) Tryz.underlying28 ad rfl)
   (lB (bW (op:=.gtr) ad (bN (show decide (((0:Nat):Int) > 0)=false from rfl) (by simp)))
   aw))))))))))))))))))
  (aL [.fact 0 (.one (.s)),.fact 1 (.one (.s))] ⟨Rw.Is 2 (If z0 k) n0,Rw.Is 2 (If z1 k1) n1,trivial⟩) bc
def zZ (z0 z1:Nat->Int) (n0 n1 k k1:Nat) (Z Y:List Int):List WP:=[Rw 2 (If z0 k) n0,Rw 2 (If z1 k1) n1,ah 2 52 (Nf (ae Z) k) Z.length,Rw 2 (Nf (ae Y) k1) 0,Nz 0]
def CQ:List Step:=[.base ⟨112,[.fact 0],[oS 2],.cu [] 1⟩,
   .base ⟨112,[.fact 1],[oS 3],false⟩,
   bQ [.fact 3] [oN 4] (aD 28),
   bQ [.fact 4,.lit (.ci .i64 0)] oT (ak .eql)]
def C7:List Out:=[oS 0,oS 1]
theorem Hf {z0 z1:Nat->Int}{n0 n1 k k1:Nat}{Z Y:List Int} (hn0:n0<=1000000) (hn1:n1<=1000000) (hk:k<=90000) (hk1:k1<=90000) (hZ:be (mk n0 z0)=Z) (hY:be (mk n1 z1)=Y) (hYl:Y.length=0):ai (ph (zZ z0 z1 n0 n1 k k1 Z Y)) Tryz.prog ⟨93,[.fact 0,.fact 1],[⟨.one (.lit (.nl)),[]⟩,oL (.ci .i64 2)],true⟩:=by
 skip
 exact aV C7 [⟨.one (.lit (.nl)),[]⟩,oL (.ci .i64 2)] CQ Tryz.func93 (by kernel_rfl)
  (lB (mm (Rw.To 2 (If z0 k) n0 (fun _ _ _ _ h=>h)) rfl (by omega) (by omega) hZ)
   (lB (pJ (L:=Y) (m:=0) (Rw.To 2 (If z1 k1) n1 (fun _ _ _ _ h=>h)) rfl (by omega) (by omega) hY hYl)
   (lB (aP (F:=(Nf (ae Y) k1)) Tryz.underlying28 ad rfl)
   (lB (bW (op:=.eql) ad (bN (show decide (((0:Nat):Int)=0)=true from rfl) (by simp)))
   aw))))
  (aL [.fact 0 (.one (.s)),.fact 1 (.one (.s))] ⟨Rw.Is 2 (If z0 k) n0,Rw.Is 2 (If z1 k1) n1,trivial⟩) bc
theorem Hp {Φ:PH}{p q i j:Nat}{z y:Int} (hp:∀w v,Φ p w v->aC w v z i) (hq:∀w v,Φ q w v->aC w v y j) (hi:i+j<=900000) (h:z % y≠0) (h0:y≠0):ai Φ Tryz.prog ⟨113,[.fact p,.fact q],[⟨.agg [.lit (.cb false),.lit .nl],[]⟩,oL (.ci .i64 3)],true⟩:=
 gL fun _ _ _ _ h1 h2=>(Hz (hp _ _ (get h1)) (hq _ _ (get h2)) hi ⟨h0,h⟩).mono fun _ _ ⟨he,hg⟩=>⟨hg,[_,_],he,⟨⟨_,rfl,rfl,rfl,trivial⟩,fun _ h=>by cases h⟩,o0 ⟨rfl,fun _ h=>by cases h⟩,trivial⟩
def nA (z0 z1:Nat->Int) (n0 n1 k k1 nb m K:Nat) (c:Int) (Z Y:List Int):List WP:=[Rw 2 (If z0 k) n0,Rw 2 (If z1 k1) n1,ah 2 52 (Nf (ae Z) k) Z.length,Rw 2 (Nf (ae Y) k1) (nb+1),Nz (nb+1),Nz nb,Nw c k1,b9 Z.length,Ni ((Z.length:Nat):Int),Ni (((Z.length:Nat):Int)-((nb:Nat):Int)),Nz m,ah 2 52 (Nf (dto m 0 (exT (ae Z) (ae Y) nb m c)) K) m,b9 m,Nz m,Ni (((m:Nat):Int)-1)]
def HF (k1 nb m K:Nat) (c:Int) (Z Y:List Int) (j i:Nat):List WP:=[Nz i,ah 2 52 (Nf (exM (ae Z) (ae Y) nb m c j i) K) Z.length,fun _ _=>True,Ptr 2 (Nw ((ae Y) i) k1),Nw ((ae Y) i) k1,Nz (m-1-j+i),Nz (m-1-j+i),At 2,Ptr 2 (Nw ((exM (ae Z) (ae Y) nb m c j i) (m-1-j+i)) K),Nw ((exM (ae Z) (ae Y) nb m c j i) (m-1-j+i)) K,Nw ((((aJ (ae Z) (ae Y) nb m c j) (m-1-j+nb)) / c)*((ae Y) i)) (K+k1),Nw (((exM (ae Z) (ae Y) nb m c j i) (m-1-j+i))-((((aJ (ae Z) (ae Y) nb m c j) (m-1-j+nb)) / c)*((ae Y) i))) (K+(K+k1)+1),At 2,Ptr 2 (Nw ((exM (ae Z) (ae Y) nb m c j i) (m-1-j+i)) K),fun w v=>ah 2 52 (fun ι w v=>af w v ((exM (ae Z) (ae Y) nb m c j (i+1)) ι) K) Z.length w v,Nz (i+1)]
def xH:bg:=⟨[0,1,4,5,7,8,9,10,11,12,15,16,17,18,19,20,21,22,23,24,25,26,27,28,29,30,31,32,33,34,35,36,39,40,41,42,43,44,45,46,47,48,49,50,51,53,54,55,56,57,58,59,60],[(.slot 61,.i),(.slot 6,.s)],[(.one 0,36),(.one 1,.Ru [1] 37),(.one 1,.lo 1)],[.closed (.one (.ci .i64 0)),.frm 16,.frm 0],36,[(37,30)]⟩
def xJ:List Step:=[bQ [.fact 36,.fact 29] oT (ak .lss),
   bQ [.fact 28,.fact 36] [oP 39] (aG 28),
   bQ [.fact 39] [oI 40] (aM 52),
   bQ [.fact 15,.fact 36] [oN 41] (ak .add),
   bQ [.fact 15,.fact 36] [oN 42] (ak .add),
   .base ⟨0,[.fact 37,.fact 42],[oP 44],.joint [1] 43 (aG 28)⟩,
   .base ⟨0,[.fact 44],[oI 45],.dd [1] (aM 52)⟩,
   .base ⟨63,[.fact 24,.fact 40],[oI 46],false⟩,
   .base ⟨94,[.fact 45,.fact 46],[oI 47],false⟩,
   .base ⟨0,[.fact 37,.fact 41],[oP 49],.joint [1] 48 (aG 28)⟩,
   .base ⟨0,[.fact 37,.fact 41,.any,.fact 47],[oS 50],.put [] 1 0 48 (dV 52 (.tmp 66) (.tmp 69))⟩,
   bQ [.fact 36,.lit (.ci .i64 1)] [oN 51] (ak .add)]
def HH:List Step:=[bQ [.fact 36,.fact 29] oF (ak .lss)]
def sq (k1 nb m K:Nat) (c:Int) (Z Y:List Int) (j:Nat):List WP:=[Ni (((m:Nat):Int)-1-((j:Nat):Int)),ah 2 52 (Nf (aJ (ae Z) (ae Y) nb m c j) K) Z.length,fun _ _=>True,ah 2 52 (Nf (dto m j (exT (ae Z) (ae Y) nb m c)) K) m,fun _ _=>True,Nz (m-1-j+nb),At 2,Ptr 2 (Nw ((aJ (ae Z) (ae Y) nb m c j) (m-1-j+nb)) K),Nw ((aJ (ae Z) (ae Y) nb m c j) (m-1-j+nb)) K,Nw (((aJ (ae Z) (ae Y) nb m c j) (m-1-j+nb)) / c) K,At 2,Ptr 2 (Nw ((dto m j (exT (ae Z) (ae Y) nb m c)) (m-1-j)) K),fun w v=>ah 2 52 (fun ι w v=>af w v ((dto m (j+1) (exT (ae Z) (ae Y) nb m c)) ι) K) m w v,Rw 2 (Nf (ae Y) k1) nb,Nz nb,fun w v=>ah 2 52 (fun ι w v=>af w v ((aJ (ae Z) (ae Y) nb m c (j+1)) ι) K) Z.length w v,Ni ((((m:Nat):Int)-1-((j:Nat):Int))-1),Nz (m-1-j+nb),At 2,Ptr 2 (Nw ((aJ (ae Z) (ae Y) nb m c j) (m-1-j+nb)) K),Nw ((aJ (ae Z) (ae Y) nb m c j) (m-1-j+nb)) K]
def HI:bg:=⟨[0,1,4,5,7,8,15,16,17,18,19,20,21,22,23,24,25,26,27,28,29,30,31,32,33,34],[(.slot 10,.i),(.slot 6,.s),(.slot 9,.s)],[(.one 0,15),(.one 1,.Ru [1] 16),(.one 1,.lo 1),(.one 2,.Ru [2] 18),(.one 2,.lo 2)],[.frm 14,.frm 2,.frm 0,.frm 11,.frm 0],15,[]⟩
def xK:List Step:=[bQ [.fact 15,.lit (.ci .i64 0)] oT (ak .geq),
   bQ [.fact 15,.fact 5] [oN 20] (ak .add),
   .base ⟨0,[.fact 16,.fact 20],[oP 22],.joint [1] 21 (aG 28)⟩,
   .base ⟨0,[.fact 22],[oI 23],.dd [1] (aM 52)⟩,
   .base ⟨113,[.fact 23,.fact 6],[oI 24,oL (.ci .i64 0)],true⟩,
   .base ⟨0,[.fact 18,.fact 15],[oP 26],.joint [2] 25 (aG 28)⟩,
   .base ⟨0,[.fact 18,.fact 15,.any,.fact 24],[oS 27],.put [] 2 0 25 (dV 52 (.tmp 53) (.tmp 54))⟩,
   bQ [.fact 3,.fact 5] [oS 28] (dI 28),
   bQ [.fact 28] [oN 29] (aD 28),
   .loop xH [(xJ,[.frm 51,.frm 50,.frm 0])] HH,
   bQ [.fact 15,.lit (.ci .i64 1)] [oN 31] (ak .sub)]
def HJ:List Step:=[bQ [.fact 15,.lit (.ci .i64 0)] oT (ak .geq),
   bQ [.fact 15,.fact 5] [oN 32] (ak .add),
   .base ⟨0,[.fact 16,.fact 32],[oP 34],.joint [1] 33 (aG 28)⟩,
   .base ⟨0,[.fact 34],[oI 35],.dd [1] (aM 52)⟩,
   .base ⟨113,[.fact 35,.fact 6],[⟨.agg [.lit (.cb false),.lit (.nl)],[]⟩,oL (.ci .i64 3)],true⟩]
def HK:List Step:=[.base ⟨112,[.fact 0],[oS 2],.cu [] 1⟩,
   .base ⟨112,[.fact 1],[oS 3],false⟩,
   bQ [.fact 3] [oN 4] (aD 28),
   bQ [.fact 4,.lit (.ci .i64 0)] oF (ak .eql),
   .base ⟨49,[.fact 3],[oN 5],false⟩,
   .base ⟨33,[.fact 3],[oI 6],false⟩,
   .freed (.one (.s 4 0)) 2 7,
   bQ [.fact 7] [oN 8] (aD 28),
   bQ [.fact 8,.fact 5] [oN 9] (ak .sub),
   bQ [.lit (.ci .i64 0),.fact 9] [oN 10] (gm .max),
   .base ⟨0,[.fact 10,.fact 10],[oS 11],.loose [] 2 0 (fp 28)⟩,
   .freed (.one (.s 24 0)) 11 12,
   bQ [.fact 12] [oN 13] (aD 28),
   bQ [.fact 13,.lit (.ci .i64 1)] [oN 14] (ak .sub),
   .loop HI [(xK,[.frm 31,.frm 30,.frm 0,.frm 27,.frm 0])] HJ]
def HP:List Out:=[oS 0,oS 1]
theorem HQ {z0 z1:Nat->Int}{n0 n1 k k1 nb m K J:Nat}{c:Int}{Z Y:List Int} (hn0:n0<=1000000) (hn1:n1<=1000000) (hk:k<=90000) (hk1:k1<=90000) (hY:be (mk n1 z1)=Y) (hkK:k<=K) (hYl:Y.length=nb+1) (hnb:nb<=800000) (hZ:be (mk n0 z0)=Z) (hZl:Z.length<=1000000) (hm:m=Z.length-nb) (hK:K<=90000) (hc:cD (ae Y) (nb+1)=c) (hc0:c≠0) (hJ:J<m) (hdv:∀j,j<J->c∣aJ (ae Z) (ae Y) nb m c j (m-1-j+nb)) (hnd:aJ (ae Z) (ae Y) nb m c J (m-1-J+nb) % c≠0) (hM:∀j i p,j<m->Bd (exM (ae Z) (ae Y) nb m c j i p).natAbs K):ai (ph (nA z0 z1 n0 n1 k k1 nb m K c Z Y)) Tryz.prog ⟨93,[.fact 0,.fact 1],[⟨.one (.lit (.nl)),[]⟩,oL (.ci .i64 3)],true⟩:=by
 skip
 exact aV HP [⟨.one (.lit (.nl)),[]⟩,oL (.ci .i64 3)] HK Tryz.func93 (by kernel_rfl)
  (lB (mm (Rw.To 2 (If z0 k) n0 (fun _ _ _ _ h=>h)) rfl (by omega) (by omega) hZ)
   (lB (pJ (L:=Y) (m:=(nb+1)) (Rw.To 2 (If z1 k1) n1 (fun _ _ _ _ h=>h)) rfl (by omega) (by omega) hY hYl)
   (lB (aP (F:=(Nf (ae Y) k1)) Tryz.underlying28 ad rfl)
   (lB (bW (op:=.eql) ad (bN (show decide ((((nb+1):Nat):Int)=0)=false from decide_eq_false (by omega)) (by simp)))
   (lB (iL (n:=(nb+1)) (fun _ _ h=>Rw.iM (sz:=2) (F:=(Nf (ae Y) k1)) (n:=(nb+1)) h) rfl (by omega) (by omega))
   (lB (iJ (z:=(ae Y)) (n:=(nb+1)) (Rw.To 2 (Nf (ae Y) k1) (nb+1) (fun _ _ _ _ h=>af.i h)) rfl (by omega) (by omega) (hc))
   (cV (cW (e:=52) (sz:=2) (n:=Z.length) (F:=(Nf (ae Z) k)) ad rfl)
   (lB (ce (n:=Z.length) Tryz.underlying28 ad rfl)
   (lB (mn ad ad (rfl) rfl (by omega) (by omega))
   (lB (sk ad (by split <;> omega) rfl)
   (lB (gZ (n:=m) (F:=(fun ι w v=>af w v ((dto m 0 (exT (ae Z) (ae Y) nb m c)) ι) K)) ad (by omega) (fun i w=>by rw [sm];exact af.zero w K) rfl)
   (cV (cW (e:=52) (sz:=2) (n:=m) (F:=(Nf (dto m 0 (exT (ae Z) (ae Y) nb m c)) K)) ad rfl)
   (lB (ce (n:=m) Tryz.underlying28 ad rfl)
   (lB (bK ad (rfl) rfl (by omega) (by omega))
   (bz (counted J (fun j=>ph (nA z0 z1 n0 n1 k k1 nb m K c Z Y ++ sq k1 nb m K c Z Y j)) (fun _=>0) (fun j p hp=>bB (show p<(nA z0 z1 n0 n1 k k1 nb m K c Z Y).length from hp)) ⟨fun _ _ h=>h.trans (congrArg (Value.int .i64) (by omega)),fun _ _ h=>ah.to (sz:=2) (e:=52) (n:=Z.length) (F:=Nf (ae Z) k) (G:=(Nf (aJ (ae Z) (ae Y) nb m c 0) K)) h fun a w v ha h=>af.more h (by omega),aS,ad,aS,trivial⟩ (fun j hj=>by
   have hjm:j<m:=by omega
   exact ⟨(xK,[.frm 31,.frm 30,.frm 0,.frm 27,.frm 0]),rfl,⟨fun _ _ h=>h.trans (congrArg (Value.int .i64) (by omega)),ad,aS,ad,aS,trivial⟩,(lB (kW ad)
   (lB (fm ad ad (by omega) rfl (by omega) (by omega))
   (lB (bI (i:=(m-1-j+nb)) (sz:=2) (n:=Z.length) (F:=(Nf (aJ (ae Z) (ae Y) nb m c j) K)) Tryz.underlying28 (by kernel_rfl) (fun _ _ h=>ah.arr h) ad (by omega) rfl rfl)
   (lB (ff (sz:=2) (F:=Nw ((aJ (ae Z) (ae Y) nb m c j) (m-1-j+nb)) K) (by kernel_rfl) (by kernel_rfl) ad (fun _ _ _ g h=>af.kp h g) (fun _ _ h=>af.is h) rfl)
   (lB (pH nI nI rfl (by omega) (hc0) (hdv j hj) rfl)
   (lB (bI (i:=(m-1-j)) (sz:=2) (n:=m) (F:=(Nf (dto m j (exT (ae Z) (ae Y) nb m c)) K)) Tryz.underlying28 (by kernel_rfl) (fun _ _ h=>ah.arr h) (fun _ _ h=>h.trans (congrArg (Value.int .i64) (by omega))) (by omega) rfl rfl)
   (lB (fo (i:=(m-1-j)) (n:=m) (F:=(fun ι w v=>af w v ((dto m j (exT (ae Z) (ae Y) nb m c)) ι) K)) (F':=(fun ι w v=>af w v ((dto m (j+1) (exT (ae Z) (ae Y) nb m c)) ι) K)) (G:=Nw (((aJ (ae Z) (ae Y) nb m c j) (m-1-j+nb)) / c) K) (.tmp 53) (.tmp 54) (by kernel_rfl) ad (fun _ _ h=>h.trans (congrArg (Value.int .i64) (by omega))) (by omega) ad rfl (fun _ _ h=>af.cells h) (fun _ _ _ _ g h=>af.kp h g) (fun _ _ _ g h=>af.kp h g) (fun i w v hi h=>by rw [sn (by omega) hi];exact h) (fun w v h=>h.eq (sf (by omega))) rfl)
   (lB (jX (m:=nb) (n:=(nb+1)) (F:=(Nf (ae Y) k1)) Tryz.underlying28 (by kernel_rfl) ad ad (by first | omega | exact aF _ _) rfl)
   (lB (aP (F:=(Nf (ae Y) k1)) Tryz.underlying28 ad rfl)
   (bz (counted nb (fun i=>ph ((nA z0 z1 n0 n1 k k1 nb m K c Z Y ++ sq k1 nb m K c Z Y j) ++ HF k1 nb m K c Z Y j i)) (fun _=>0) (fun i p hp=>bB (show p<(nA z0 z1 n0 n1 k k1 nb m K c Z Y ++ sq k1 nb m K c Z Y j).length from hp)) ⟨fun _=>rfl,fun _ _ h=>ah.to (sz:=2) (e:=52) (n:=Z.length) (F:=(fun ι w v=>af w v ((aJ (ae Z) (ae Y) nb m c j) ι) K)) (G:=(fun ι w v=>af w v ((exM (ae Z) (ae Y) nb m c j 0) ι) K)) h fun a w v ha h=>by rw [sd];exact h,aS,trivial⟩ (fun i hi=>by
   skip
   exact ⟨(xJ,[.frm 51,.frm 50,.frm 0]),rfl,⟨ad,ad,aS,trivial⟩,(lB (cU ad ad)
   (lB (bZ (i:=i) (F:=(Nf (ae Y) k1)) Tryz.underlying28 (by kernel_rfl) ad ad (by omega) rfl)
   (lB (dW (sz:=2) (F:=Nw ((ae Y) i) k1) (by kernel_rfl) (by kernel_rfl) ad (fun _ _ _ g h=>af.kp h g) (fun _ _ h=>af.is h) rfl)
   (lB (fm ad ad (by omega) rfl (by omega) (by omega))
   (lB (fm ad ad (by omega) rfl (by omega) (by omega))
   (lB (bI (i:=(m-1-j+i)) (sz:=2) (n:=Z.length) (F:=(Nf (exM (ae Z) (ae Y) nb m c j i) K)) Tryz.underlying28 (by kernel_rfl) (fun _ _ h=>ah.arr h) ad (by omega) rfl rfl)
   (lB (ff (sz:=2) (F:=Nw ((exM (ae Z) (ae Y) nb m c j i) (m-1-j+i)) K) (by kernel_rfl) (by kernel_rfl) ad (fun _ _ _ g h=>af.kp h g) (fun _ _ h=>af.is h) rfl)
   (lB (g9 nI nI rfl (by omega) rfl)
   (lB (pK nI nI rfl (by omega) rfl)
   (lB (bI (i:=(m-1-j+i)) (sz:=2) (n:=Z.length) (F:=(Nf (exM (ae Z) (ae Y) nb m c j i) K)) Tryz.underlying28 (by kernel_rfl) (fun _ _ h=>ah.arr h) ad (by omega) rfl rfl)
   (lB (fo (i:=(m-1-j+i)) (n:=Z.length) (F:=(fun ι w v=>af w v ((exM (ae Z) (ae Y) nb m c j i) ι) K)) (F':=(fun ι w v=>af w v ((exM (ae Z) (ae Y) nb m c j (i+1)) ι) K)) (G:=Nw (((exM (ae Z) (ae Y) nb m c j i) (m-1-j+i))-((((aJ (ae Z) (ae Y) nb m c j) (m-1-j+nb)) / c)*((ae Y) i))) (K+(K+k1)+1)) (.tmp 66) (.tmp 69) (by kernel_rfl) ad ad (by omega) ad rfl (fun _ _ h=>af.cells h) (fun _ _ _ _ g h=>af.kp h g) (fun _ _ _ g h=>af.kp h g) (fun a w v ha h=>by rw [se ha];exact h) (fun w v h=>af.re (h.eq (si (by omega))) (hM j (i+1) _ (by omega))) rfl)
   (lB (cN ad (by omega) rfl (by omega) (by omega))
   aw))))))))))))⟩)
   (lB (tlF ad ad)
   aw)
   (fun q hq w v h=>by
    simp only [xH,List.mem_cons,List.not_mem_nil,or_false] at hq
    rcases hq with rfl
    ·exact (fun h=>h) h)) (lB (bK ad (rfl) rfl (by omega) (by omega))
   aw)))))))))))⟩)
   (by
   obtain ⟨j,rfl⟩:∃j,j=J:=⟨J,rfl⟩
   exact (lB (kW ad)
   (lB (fm ad ad (by omega) rfl (by omega) (by omega))
   (lB (bI (i:=(m-1-j+nb)) (sz:=2) (n:=Z.length) (F:=(Nf (aJ (ae Z) (ae Y) nb m c j) K)) Tryz.underlying28 (by kernel_rfl) (fun _ _ h=>ah.arr h) ad (by omega) rfl rfl)
   (lB (ff (sz:=2) (F:=Nw ((aJ (ae Z) (ae Y) nb m c j) (m-1-j+nb)) K) (by kernel_rfl) (by kernel_rfl) ad (fun _ _ _ g h=>af.kp h g) (fun _ _ h=>af.is h) rfl)
   (lB (Hp nI nI (by omega) hnd hc0)
   aw))))))
   (fun q hq=>by cases hq)) aw)))))))))))))))
  (aL [.fact 0 (.one (.s)),.fact 1 (.one (.s))] ⟨Rw.Is 2 (If z0 k) n0,Rw.Is 2 (If z1 k1) n1,trivial⟩) bc
def nB (z0 z1:Nat->Int) (n0 n1 k k1 nb m K:Nat) (c:Int) (Z Y L2:List Int):List WP:=[Rw 2 (If z0 k) n0,Rw 2 (If z1 k1) n1,ah 2 52 (Nf (ae Z) k) Z.length,Rw 2 (Nf (ae Y) k1) (nb+1),Nz (nb+1),Nz nb,Nw c k1,b9 Z.length,Ni ((Z.length:Nat):Int),Ni (((Z.length:Nat):Int)-((nb:Nat):Int)),Nz m,ah 2 52 (Nf (dto m 0 (exT (ae Z) (ae Y) nb m c)) K) m,b9 m,Nz m,Ni (((m:Nat):Int)-1),ah 2 52 (Nf (aJ (ae Z) (ae Y) nb m c m) K) Z.length,ah 2 52 (Nf (dto m m (exT (ae Z) (ae Y) nb m c)) K) m,Rw 2 (Nf (ae L2) K) L2.length,Ni ((L2.length:Nat):Int)]
def HW (k1 nb m K:Nat) (c:Int) (Z Y:List Int) (j i:Nat):List WP:=[Nz i,ah 2 52 (Nf (exM (ae Z) (ae Y) nb m c j i) K) Z.length,fun _ _=>True,Ptr 2 (Nw ((ae Y) i) k1),Nw ((ae Y) i) k1,Nz (m-1-j+i),Nz (m-1-j+i),At 2,Ptr 2 (Nw ((exM (ae Z) (ae Y) nb m c j i) (m-1-j+i)) K),Nw ((exM (ae Z) (ae Y) nb m c j i) (m-1-j+i)) K,Nw ((((aJ (ae Z) (ae Y) nb m c j) (m-1-j+nb)) / c)*((ae Y) i)) (K+k1),Nw (((exM (ae Z) (ae Y) nb m c j i) (m-1-j+i))-((((aJ (ae Z) (ae Y) nb m c j) (m-1-j+nb)) / c)*((ae Y) i))) (K+(K+k1)+1),At 2,Ptr 2 (Nw ((exM (ae Z) (ae Y) nb m c j i) (m-1-j+i)) K),fun w v=>ah 2 52 (fun ι w v=>af w v ((exM (ae Z) (ae Y) nb m c j (i+1)) ι) K) Z.length w v,Nz (i+1)]
def xL:bg:=⟨[0,1,4,5,7,8,9,10,11,12,15,16,17,18,19,20,21,22,23,24,25,26,27,28,29,30,31,32,33,34,35,36,39,40,41,42,43,44,45,46,47,48,49,50,51,53,54,55,56,57,58,59,60],[(.slot 61,.i),(.slot 6,.s)],[(.one 0,36),(.one 1,.Ru [1] 37),(.one 1,.lo 1)],[.closed (.one (.ci .i64 0)),.frm 20,.frm 0],36,[(37,34)]⟩
def xM:List Step:=[bQ [.fact 36,.fact 33] oT (ak .lss),
   bQ [.fact 32,.fact 36] [oP 39] (aG 28),
   bQ [.fact 39] [oI 40] (aM 52),
   bQ [.fact 19,.fact 36] [oN 41] (ak .add),
   bQ [.fact 19,.fact 36] [oN 42] (ak .add),
   .base ⟨0,[.fact 37,.fact 42],[oP 44],.joint [1] 43 (aG 28)⟩,
   .base ⟨0,[.fact 44],[oI 45],.dd [1] (aM 52)⟩,
   .base ⟨63,[.fact 28,.fact 40],[oI 46],false⟩,
   .base ⟨94,[.fact 45,.fact 46],[oI 47],false⟩,
   .base ⟨0,[.fact 37,.fact 41],[oP 49],.joint [1] 48 (aG 28)⟩,
   .base ⟨0,[.fact 37,.fact 41,.any,.fact 47],[oS 50],.put [] 1 0 48 (dV 52 (.tmp 66) (.tmp 69))⟩,
   bQ [.fact 36,.lit (.ci .i64 1)] [oN 51] (ak .add)]
def H1:List Step:=[bQ [.fact 36,.fact 33] oF (ak .lss)]
def su (k1 nb m K:Nat) (c:Int) (Z Y:List Int) (j:Nat):List WP:=[Ni (((m:Nat):Int)-1-((j:Nat):Int)),ah 2 52 (Nf (aJ (ae Z) (ae Y) nb m c j) K) Z.length,fun _ _=>True,ah 2 52 (Nf (dto m j (exT (ae Z) (ae Y) nb m c)) K) m,fun _ _=>True,Nz (m-1-j+nb),At 2,Ptr 2 (Nw ((aJ (ae Z) (ae Y) nb m c j) (m-1-j+nb)) K),Nw ((aJ (ae Z) (ae Y) nb m c j) (m-1-j+nb)) K,Nw (((aJ (ae Z) (ae Y) nb m c j) (m-1-j+nb)) / c) K,At 2,Ptr 2 (Nw ((dto m j (exT (ae Z) (ae Y) nb m c)) (m-1-j)) K),fun w v=>ah 2 52 (fun ι w v=>af w v ((dto m (j+1) (exT (ae Z) (ae Y) nb m c)) ι) K) m w v,Rw 2 (Nf (ae Y) k1) nb,Nz nb,fun w v=>ah 2 52 (fun ι w v=>af w v ((aJ (ae Z) (ae Y) nb m c (j+1)) ι) K) Z.length w v,Ni ((((m:Nat):Int)-1-((j:Nat):Int))-1)]
def xN:bg:=⟨[0,1,4,5,7,8,15,16,17,18,19,20,21,22,23,24,25,26,27,28,29,30,31,32,33,34],[(.slot 10,.i),(.slot 6,.s),(.slot 9,.s)],[(.one 0,19),(.one 1,.Ru [1] 20),(.one 1,.lo 1),(.one 2,.Ru [2] 22),(.one 2,.lo 2)],[.frm 14,.frm 2,.frm 0,.frm 11,.frm 0],19,[(20,15),(22,16)]⟩
def xO:List Step:=[bQ [.fact 19,.lit (.ci .i64 0)] oT (ak .geq),
   bQ [.fact 19,.fact 5] [oN 24] (ak .add),
   .base ⟨0,[.fact 20,.fact 24],[oP 26],.joint [1] 25 (aG 28)⟩,
   .base ⟨0,[.fact 26],[oI 27],.dd [1] (aM 52)⟩,
   .base ⟨113,[.fact 27,.fact 6],[oI 28,oL (.ci .i64 0)],true⟩,
   .base ⟨0,[.fact 22,.fact 19],[oP 30],.joint [2] 29 (aG 28)⟩,
   .base ⟨0,[.fact 22,.fact 19,.any,.fact 28],[oS 31],.put [] 2 0 29 (dV 52 (.tmp 53) (.tmp 54))⟩,
   bQ [.fact 3,.fact 5] [oS 32] (dI 28),
   bQ [.fact 32] [oN 33] (aD 28),
   .loop xL [(xM,[.frm 51,.frm 50,.frm 0])] H1,
   bQ [.fact 19,.lit (.ci .i64 1)] [oN 35] (ak .sub)]
def H5:List Step:=[bQ [.fact 19,.lit (.ci .i64 0)] oF (ak .geq)]
def H6:List Step:=[.base ⟨112,[.fact 0],[oS 2],.cu [] 1⟩,
   .base ⟨112,[.fact 1],[oS 3],false⟩,
   bQ [.fact 3] [oN 4] (aD 28),
   bQ [.fact 4,.lit (.ci .i64 0)] oF (ak .eql),
   .base ⟨49,[.fact 3],[oN 5],false⟩,
   .base ⟨33,[.fact 3],[oI 6],false⟩,
   .freed (.one (.s 4 0)) 2 7,
   bQ [.fact 7] [oN 8] (aD 28),
   bQ [.fact 8,.fact 5] [oN 9] (ak .sub),
   bQ [.lit (.ci .i64 0),.fact 9] [oN 10] (gm .max),
   .base ⟨0,[.fact 10,.fact 10],[oS 11],.loose [] 2 0 (fp 28)⟩,
   .freed (.one (.s 24 0)) 11 12,
   bQ [.fact 12] [oN 13] (aD 28),
   bQ [.fact 13,.lit (.ci .i64 1)] [oN 14] (ak .sub),
   .loop xN [(xO,[.frm 35,.frm 34,.frm 0,.frm 31,.frm 0])] H5,
   .base ⟨124,[.fact 15,.fact 5],[oS 17],.cE [1] false⟩,
   .base ⟨0,[.fact 17],[oN 18],.iK [1] (aD 28)⟩,
   .base ⟨0,[.fact 18,.lit (.ci .i64 0)],oT,.iK [1] (ak .gtr)⟩]
def H7:List Out:=[oS 0,oS 1]
theorem H8 {z0 z1:Nat->Int}{n0 n1 k k1 nb m K:Nat}{c:Int}{Z Y L2:List Int} (hn0:n0<=1000000) (hn1:n1<=1000000) (hk:k<=90000) (hk1:k1<=90000) (hY:be (mk n1 z1)=Y) (hkK:k<=K) (hYl:Y.length=nb+1) (hnb:nb<=800000) (hZ:be (mk n0 z0)=Z) (hZl:Z.length<=1000000) (hm:m=Z.length-nb) (hK:K<=90000) (hc:cD (ae Y) (nb+1)=c) (hc0:c≠0) (hdv:∀j,j<m->c∣aJ (ae Z) (ae Y) nb m c j (m-1-j+nb)) (hM:∀j i p,j<m->Bd (exM (ae Z) (ae Y) nb m c j i p).natAbs K) (hL2:be (mk (min nb Z.length) (aJ (ae Z) (ae Y) nb m c m))=L2) (Xo:0<L2.length):ai (ph (nB z0 z1 n0 n1 k k1 nb m K c Z Y L2)) Tryz.prog ⟨93,[.fact 0,.fact 1],[⟨.one (.lit (.nl)),[]⟩,oL (.ci .i64 3)],true⟩:=by
 skip
 exact aV H7 [⟨.one (.lit (.nl)),[]⟩,oL (.ci .i64 3)] H6 Tryz.func93 (by kernel_rfl)
  (lB (mm (Rw.To 2 (If z0 k) n0 (fun _ _ _ _ h=>h)) rfl (by omega) (by omega) hZ)
   (lB (pJ (L:=Y) (m:=(nb+1)) (Rw.To 2 (If z1 k1) n1 (fun _ _ _ _ h=>h)) rfl (by omega) (by omega) hY hYl)
   (lB (aP (F:=(Nf (ae Y) k1)) Tryz.underlying28 ad rfl)
   (lB (bW (op:=.eql) ad (bN (show decide ((((nb+1):Nat):Int)=0)=false from decide_eq_false (by omega)) (by simp)))
   (lB (iL (n:=(nb+1)) (fun _ _ h=>Rw.iM (sz:=2) (F:=(Nf (ae Y) k1)) (n:=(nb+1)) h) rfl (by omega) (by omega))
   (lB (iJ (z:=(ae Y)) (n:=(nb+1)) (Rw.To 2 (Nf (ae Y) k1) (nb+1) (fun _ _ _ _ h=>af.i h)) rfl (by omega) (by omega) (hc))
   (cV (cW (e:=52) (sz:=2) (n:=Z.length) (F:=(Nf (ae Z) k)) ad rfl)
   (lB (ce (n:=Z.length) Tryz.underlying28 ad rfl)
   (lB (mn ad ad (rfl) rfl (by omega) (by omega))
   (lB (sk ad (by split <;> omega) rfl)
   (lB (gZ (n:=m) (F:=(fun ι w v=>af w v ((dto m 0 (exT (ae Z) (ae Y) nb m c)) ι) K)) ad (by omega) (fun i w=>by rw [sm];exact af.zero w K) rfl)
   (cV (cW (e:=52) (sz:=2) (n:=m) (F:=(Nf (dto m 0 (exT (ae Z) (ae Y) nb m c)) K)) ad rfl)
   (lB (ce (n:=m) Tryz.underlying28 ad rfl)
   (lB (bK ad (rfl) rfl (by omega) (by omega))
   (bz (counted m (fun j=>ph (nB z0 z1 n0 n1 k k1 nb m K c Z Y L2 ++ su k1 nb m K c Z Y j)) (fun _=>0) (fun j p hp=>bB (show p<(nB z0 z1 n0 n1 k k1 nb m K c Z Y L2).length from hp)) ⟨fun _ _ h=>h.trans (congrArg (Value.int .i64) (by omega)),fun _ _ h=>ah.to (sz:=2) (e:=52) (n:=Z.length) (F:=Nf (ae Z) k) (G:=(Nf (aJ (ae Z) (ae Y) nb m c 0) K)) h fun a w v ha h=>af.more h (by omega),aS,ad,aS,trivial⟩ (fun j hj=>by
   skip
   exact ⟨(xO,[.frm 35,.frm 34,.frm 0,.frm 31,.frm 0]),rfl,⟨fun _ _ h=>h.trans (congrArg (Value.int .i64) (by omega)),ad,aS,ad,aS,trivial⟩,(lB (kW ad)
   (lB (fm ad ad (by omega) rfl (by omega) (by omega))
   (lB (bI (i:=(m-1-j+nb)) (sz:=2) (n:=Z.length) (F:=(Nf (aJ (ae Z) (ae Y) nb m c j) K)) Tryz.underlying28 (by kernel_rfl) (fun _ _ h=>ah.arr h) ad (by omega) rfl rfl)
   (lB (ff (sz:=2) (F:=Nw ((aJ (ae Z) (ae Y) nb m c j) (m-1-j+nb)) K) (by kernel_rfl) (by kernel_rfl) ad (fun _ _ _ g h=>af.kp h g) (fun _ _ h=>af.is h) rfl)
   (lB (pH nI nI rfl (by omega) (hc0) (hdv j hj) rfl)
   (lB (bI (i:=(m-1-j)) (sz:=2) (n:=m) (F:=(Nf (dto m j (exT (ae Z) (ae Y) nb m c)) K)) Tryz.underlying28 (by kernel_rfl) (fun _ _ h=>ah.arr h) (fun _ _ h=>h.trans (congrArg (Value.int .i64) (by omega))) (by omega) rfl rfl)
   (lB (fo (i:=(m-1-j)) (n:=m) (F:=(fun ι w v=>af w v ((dto m j (exT (ae Z) (ae Y) nb m c)) ι) K)) (F':=(fun ι w v=>af w v ((dto m (j+1) (exT (ae Z) (ae Y) nb m c)) ι) K)) (G:=Nw (((aJ (ae Z) (ae Y) nb m c j) (m-1-j+nb)) / c) K) (.tmp 53) (.tmp 54) (by kernel_rfl) ad (fun _ _ h=>h.trans (congrArg (Value.int .i64) (by omega))) (by omega) ad rfl (fun _ _ h=>af.cells h) (fun _ _ _ _ g h=>af.kp h g) (fun _ _ _ g h=>af.kp h g) (fun i w v hi h=>by rw [sn (by omega) hi];exact h) (fun w v h=>h.eq (sf hj)) rfl)
   (lB (jX (m:=nb) (n:=(nb+1)) (F:=(Nf (ae Y) k1)) Tryz.underlying28 (by kernel_rfl) ad ad (by first | omega | exact aF _ _) rfl)
   (lB (aP (F:=(Nf (ae Y) k1)) Tryz.underlying28 ad rfl)
   (bz (counted nb (fun i=>ph ((nB z0 z1 n0 n1 k k1 nb m K c Z Y L2 ++ su k1 nb m K c Z Y j) ++ HW k1 nb m K c Z Y j i)) (fun _=>0) (fun i p hp=>bB (show p<(nB z0 z1 n0 n1 k k1 nb m K c Z Y L2 ++ su k1 nb m K c Z Y j).length from hp)) ⟨fun _=>rfl,fun _ _ h=>ah.to (sz:=2) (e:=52) (n:=Z.length) (F:=(fun ι w v=>af w v ((aJ (ae Z) (ae Y) nb m c j) ι) K)) (G:=(fun ι w v=>af w v ((exM (ae Z) (ae Y) nb m c j 0) ι) K)) h fun a w v ha h=>by rw [sd];exact h,aS,trivial⟩ (fun i hi=>by
   skip
   exact ⟨(xM,[.frm 51,.frm 50,.frm 0]),rfl,⟨ad,ad,aS,trivial⟩,(lB (cU ad ad)
   (lB (bZ (i:=i) (F:=(Nf (ae Y) k1)) Tryz.underlying28 (by kernel_rfl) ad ad (by omega) rfl)
   (lB (dW (sz:=2) (F:=Nw ((ae Y) i) k1) (by kernel_rfl) (by kernel_rfl) ad (fun _ _ _ g h=>af.kp h g) (fun _ _ h=>af.is h) rfl)
   (lB (fm ad ad (by omega) rfl (by omega) (by omega))
   (lB (fm ad ad (by omega) rfl (by omega) (by omega))
   (lB (bI (i:=(m-1-j+i)) (sz:=2) (n:=Z.length) (F:=(Nf (exM (ae Z) (ae Y) nb m c j i) K)) Tryz.underlying28 (by kernel_rfl) (fun _ _ h=>ah.arr h) ad (by omega) rfl rfl)
   (lB (ff (sz:=2) (F:=Nw ((exM (ae Z) (ae Y) nb m c j i) (m-1-j+i)) K) (by kernel_rfl) (by kernel_rfl) ad (fun _ _ _ g h=>af.kp h g) (fun _ _ h=>af.is h) rfl)
   (lB (g9 nI nI rfl (by omega) rfl)
   (lB (pK nI nI rfl (by omega) rfl)
   (lB (bI (i:=(m-1-j+i)) (sz:=2) (n:=Z.length) (F:=(Nf (exM (ae Z) (ae Y) nb m c j i) K)) Tryz.underlying28 (by kernel_rfl) (fun _ _ h=>ah.arr h) ad (by omega) rfl rfl)
   (lB (fo (i:=(m-1-j+i)) (n:=Z.length) (F:=(fun ι w v=>af w v ((exM (ae Z) (ae Y) nb m c j i) ι) K)) (F':=(fun ι w v=>af w v ((exM (ae Z) (ae Y) nb m c j (i+1)) ι) K)) (G:=Nw (((exM (ae Z) (ae Y) nb m c j i) (m-1-j+i))-((((aJ (ae Z) (ae Y) nb m c j) (m-1-j+nb)) / c)*((ae Y) i))) (K+(K+k1)+1)) (.tmp 66) (.tmp 69) (by kernel_rfl) ad ad (by omega) ad rfl (fun _ _ h=>af.cells h) (fun _ _ _ _ g h=>af.kp h g) (fun _ _ _ g h=>af.kp h g) (fun a w v ha h=>by rw [se ha];exact h) (fun w v h=>af.re (h.eq (si hj)) (hM j (i+1) _ (by omega))) rfl)
   (lB (cN ad (by omega) rfl (by omega) (by omega))
   aw))))))))))))⟩)
   (lB (tlF ad ad)
   aw)
   (fun q hq w v h=>by
    simp only [xL,List.mem_cons,List.not_mem_nil,or_false] at hq
    rcases hq with rfl
    ·exact (fun h=>h) h)) (lB (bK ad (rfl) rfl (by omega) (by omega))
   aw)))))))))))⟩)
   (lB (chF ad)
   aw)
   (fun q hq w v h=>by
    simp only [xN,List.mem_cons,List.not_mem_nil,or_false] at hq
    rcases hq with rfl | rfl
    ·exact (fun h=>h) h
    ·exact (fun h=>h) h)) (lB (de [1] (xB (L:=L2) (z:=(aJ (ae Z) (ae Y) nb m c m)) (l:=Z.length) (fun _ _ h=>Rw.to (sz:=2) (n:=Z.length) (F:=(Nf (aJ (ae Z) (ae Y) nb m c m) K)) (ah.rw h) (fun _ _ _ _ h=>af.i h)) ad rfl (by omega) (by omega) hL2))
   (lB (aP (F:=(Nf (ae L2) K)) Tryz.underlying28 ad rfl)
   (lB (d3 ad)
   aw))))))))))))))))))
  (aL [.fact 0 (.one (.s)),.fact 1 (.one (.s))] ⟨Rw.Is 2 (If z0 k) n0,Rw.Is 2 (If z1 k1) n1,trivial⟩) bc
end Go.Proofs.YtbokonbbokhjlaaGreat.Sym
