/- poly.Lead, and what poly.Move is made of: widened, narrowed, shift. poly.Move. -/
import Derived.Test.YthmcngjhkmpneaaGreatPolX
set_option maxRecDepth 100000
namespace Go.Proofs.YthmcngjhkmpneaaGreat.Sym
open Go.RowKit
def tR (z:Nat->Int) (n:Nat):Int:=if tl z n=0 then 0 else z (tl z n-1)
def dto (m j:Nat) (f:Nat->Int) (i:Nat):Int:=if m-j<=i∧i<m then f i else 0
theorem IR {m i:Nat}{f:Nat->Int}:dto m 0 f i=0:=if_neg (by omega)
theorem IS {m j i:Nat}{f:Nat->Int} (hj:j<m) (h:i≠m-1-j):dto m (j+1) f i=dto m j f i:=by
 unfold dto
 split <;> split <;> first | rfl | omega
theorem IT {m j:Nat}{z:Nat->Int}{d:Int} (hj:j<m):dto m (j+1) (fun i=>z i*d ^ (m-1-i)) (m-1-j)=z (m-1-j)*d ^ j:=by
 unfold dto
 rw [if_pos (by omega)]
 show z _*d ^ (m-1-(m-1-j))=_
 rw [show m-1-(m-1-j)=j by omega]
structure jv (S:Nat->Nat->Int) (u:Int) (n:Nat):Prop where
 low:∀j i,j<n->i<j->S (j+1) i=S j i
 top:∀j,j<n->S (j+1) (n-1)=S j (n-1)
 step:∀j i,j<=i->i+1<n->S (j+1) i=S j i+S (j+1) (i+1)*u
def mid (S:Nat->Nat->Int) (n j i a:Nat):Int:=if n-1-i<=a then S (j+1) a else S j a
section
variable {S:Nat->Nat->Int}{u:Int}{n j i a:Nat}
theorem mid_zero (h:jv S u n) (hj:j<n) (ha:a<n):mid S n j 0 a=S j a:=by
 unfold mid
 split
 ·have:a=n-1:=by omega
  rw [this];exact h.top j hj
 ·rfl
theorem IU (_:i<n-1) (h:a≠n-2-i):mid S n j (i+1) a=mid S n j i a:=by
 unfold mid
 split <;> split <;> first | rfl | omega
theorem IV (h:jv S u n) (hj:j<n) (_:a<n):mid S n j (n-1-j) a=S (j+1) a:=by
 unfold mid
 split
 ·rfl
 ·exact (h.low j a hj (by omega)).symm
theorem IW (h:jv S u n) (hj:j<n) (hi:i<n-1-j):mid S n j i (n-2-i)+mid S n j i (n-1-i)*u=mid S n j (i+1) (n-2-i):=by
 unfold mid
 rw [if_neg (by omega),if_pos (by omega),if_pos (by omega),h.step j (n-2-i) (by omega) (by omega),show n-2-i+1=n-1-i by omega]
theorem IX {K:Nat} (hM:∀j a,j<=n->a<n->Bd (S j a).natAbs K) (hj:j<n) (ha:a<n):Bd (mid S n j i a).natAbs K:=by
 unfold mid
 split
 ·exact hM _ _ (by omega) ha
 ·exact hM _ _ (by omega) ha
end
def RF (z:Nat->Int) (n k:Nat):List WP:=[Rw 2 (If z k) n,Rw 2 (If z k) (tl z n),Ni ((((tl z n):Nat):Int)-1),Nz (tl z n-1),Iw (tR z n) k,Nw (tR z n) k]
def RG:List Step:=[.base ⟨66,[.fact 0],[oS 1],false⟩,
   .base ⟨59,[.fact 1],[oN 2],false⟩,
   bQ [.fact 2,.lit (.ci .i64 0)] [oN 3] (gw .max),
   .base ⟨121,[.fact 1,.fact 3],[oI 4],false⟩,
   .base ⟨93,[.fact 4],[oI 5],false⟩]
def RH:List Out:=[oS 0]
theorem RI {z:Nat->Int}{n k:Nat} (hn:n<=1000000) (hk:k<=500000):ai (ph (RF z n k)) Tryz.prog ⟨105,[.fact 0],[oI 5],false⟩:=by
 have hle:=aV z n
 exact bg RH [oI 5] RG Tryz.func105 (by kernel_rfl)
  (lB (ng (z:=z) (n:=n) (k:=k) (F:=(If z k)) ad bh (fun _ _ _ _ g h=>aj.kp h g) rfl (by omega) (by omega))
   (lB (oO (n:=(tl z n)) (fun _ _ h=>Rw.tm (sz:=2) (F:=(If z k)) (n:=(tl z n)) h) rfl (by omega) (rfl))
   (lB (Rj ad (by split <;> omega) rfl)
   (lB (RJ (z:=z) (n:=(tl z n)) (i:=(tl z n-1)) (Rw.To 2 (If z k) (tl z n) (fun _ _ _ _ h=>h)) ad rfl (by omega) (fun h=>(if_neg (by omega)).symm) (fun h=>if_pos (by omega)))
   (lB (uD iI rfl (by omega) rfl)
   aC)))))
  (aK [.fact 0 (.one (.s))] ⟨Rw.Is 2 (If z k) n,trivial⟩) bh
def qW (z:Nat->Int) (n k:Nat) (d:Int) (kd K:Nat):List WP:=[Rw 2 (If z k) n,Iw d kd,Rw 2 (If z k) (tl z n),Nz (tl z n),fun w v=>am 2 51 (fun ι w v=>ak w v ((dto (tl z n) 0 (fun i=>z i*d ^ ((tl z n)-1-i))) ι) K) (tl z n) w v,Nw (1:Int) 2,Ni ((((tl z n):Nat):Int)-1),fun w v=>am 2 51 (fun ι w v=>ak w v ((dto (tl z n) (tl z n) (fun i=>z i*d ^ ((tl z n)-1-i))) ι) K) (tl z n) w v]
def IY (z:Nat->Int) (n k:Nat) (d:Int) (kd kp K:Nat) (j:Nat):List WP:=[Ni ((((tl z n):Nat):Int)-1-((j:Nat):Int)),fun w v=>am 2 51 (fun ι w v=>ak w v ((dto (tl z n) j (fun i=>z i*d ^ ((tl z n)-1-i))) ι) K) (tl z n) w v,fun _ _=>True,Nw (d ^ j) kp,Ptr 2 (Iw (z ((tl z n)-1-j)) k),Iw (z ((tl z n)-1-j)) k,Nw ((z ((tl z n)-1-j))*(d ^ j)) (k+kp),At 2,Ptr 2 (Nw ((dto (tl z n) j (fun i=>z i*d ^ ((tl z n)-1-i))) ((tl z n)-1-j)) K),fun w v=>am 2 51 (fun ι w v=>ak w v ((dto (tl z n) (j+1) (fun i=>z i*d ^ ((tl z n)-1-i))) ι) K) (tl z n) w v,Nw ((d ^ j)*d) (kp+kd),Ni (((((tl z n):Nat):Int)-1-((j:Nat):Int))-1)]
def xt:bj:=⟨[0,1,3,4,6,8,9,10,11,12,13,14,15],[(.slot 7,.i),(.slot 5,.s),(.cell 10 0,.b),(.cell 10 1,.s)],[(.one 0,8),(.one 1,.bZ [1] 9),(.one 1,.lo 1),(.agg [2,3],11)],[.frm 6,.frm 4,.frm 0,.frm 5],8,[(9,7)]⟩
def xu:List Step:=[bQ [.fact 8,.lit (.ci .i64 0)] oT (au .geq),
   bQ [.fact 2,.fact 8] [oP 12] (aO 28),
   bQ [.fact 12] [oI 13] (aS 51),
   .base ⟨44,[.fact 13,.fact 11],[oI 14],false⟩,
   .base ⟨0,[.fact 9,.fact 8],[oP 16],.joint [1] 15 (aO 28)⟩,
   .base ⟨0,[.fact 9,.fact 8,.any,.fact 14],[oS 17],.put [] 1 0 15 (eN 51 (.tmp 20) (.tmp 21))⟩,
   .base ⟨44,[.fact 11,.fact 1],[oI 18],false⟩,
   bQ [.fact 8,.lit (.ci .i64 1)] [oN 19] (au .sub)]
def IZ:List Step:=[bQ [.fact 8,.lit (.ci .i64 0)] oF (au .geq)]
def I0:List Step:=[.base ⟨66,[.fact 0],[oS 2],false⟩,
   bQ [.fact 2] [oN 3] (aI 28),
   .base ⟨0,[.fact 3,.fact 3],[oS 4],.loose [] 1 0 (ff 28)⟩,
   .base ⟨75,[.lit (.ci .i64 1)],[oI 5],false⟩,
   .base ⟨59,[.fact 2],[oN 6],false⟩,
   .loop xt [(xu,[.frm 19,.frm 17,.frm 0,.frm 18])] IZ]
def I3:List Out:=[oS 0,oI 1]
theorem I4 {z:Nat->Int}{n k:Nat}{d:Int}{kd kp K:Nat} (hn:n<=1000000) (hk:k<=400000) (hkd:kd<=100000) (hkp:kp<=100000) (hK:k+kp<=K) (hB:∀j,j<=tl z n->Bd (d ^ j).natAbs kp):er (ph (qW z n k d kd K)) Tryz.prog ⟨166,[.fact 0,.fact 1],[oS 7],false⟩:=by
 have hle:=aV z n
 exact jV I3 [oS 7] I0 Tryz.func166 (by kernel_rfl)
  (lB (ng (z:=z) (n:=n) (k:=k) (F:=(If z k)) ad bh (fun _ _ _ _ g h=>aj.kp h g) rfl (by omega) (by omega))
   (lB (a9 (F:=(If z k)) Tryz.underlying28 ad rfl)
   (lB (rh (n:=(tl z n)) (F:=(fun ι w v=>ak w v ((dto (tl z n) 0 (fun i=>z i*d ^ ((tl z n)-1-i))) ι) K)) ad (by omega) (fun i w=>by rw [IR];exact ak.zero w K) rfl)
   (lB (qX (z:=1) rfl (by decide) (by decide) rfl)
   (lB (oO (n:=(tl z n)) (fun _ _ h=>Rw.tm (sz:=2) (F:=(If z k)) (n:=(tl z n)) h) rfl (by omega) (rfl))
   (bN (counted (tl z n) (fun j=>ph (qW z n k d kd K ++ IY z n k d kd kp K j)) (fun _=>0) (fun j p hp=>bO (show p<(qW z n k d kd K).length from hp)) ⟨fun _ _ h=>h.trans (congrArg (Value.int .i64) (by omega)),ad,bp,fun _ _ h=>ak.re (h.eq (by rw [Int.pow_zero])) (hB 0 (by omega)),trivial⟩ (fun j hj=>by
   skip
   exact ⟨(xu,[.frm 19,.frm 17,.frm 0,.frm 18]),rfl,⟨fun _ _ h=>h.trans (congrArg (Value.int .i64) (by omega)),ad,bp,fun _ _ h=>ak.re (h.eq (by rw [Int.pow_succ])) (hB (j+1) (by omega)),trivial⟩,(lB (tP ad)
   (lB (b6 (i:=((tl z n)-1-j)) (F:=(If z k)) Tryz.underlying28 (by kernel_rfl) ad (fun _ _ h=>h.trans (congrArg (Value.int .i64) (by omega))) (by omega) rfl)
   (lB (bK (sz:=2) (F:=Iw (z ((tl z n)-1-j)) k) (by kernel_rfl) (by kernel_rfl) ad (fun _ _ _ g h=>aj.kp h g) (fun _ _ h=>aj.is h) rfl)
   (lB (jr iI nI rfl (by omega) rfl)
   (lB (dY (i:=((tl z n)-1-j)) (sz:=2) (n:=(tl z n)) (F:=(fun ι w v=>ak w v ((dto (tl z n) j (fun i=>z i*d ^ ((tl z n)-1-i))) ι) K)) Tryz.underlying28 (by kernel_rfl) (fun _ _ h=>am.arr h) (fun _ _ h=>h.trans (congrArg (Value.int .i64) (by omega))) (by omega) rfl rfl)
   (lB (fB (i:=((tl z n)-1-j)) (n:=(tl z n)) (F:=(fun ι w v=>ak w v ((dto (tl z n) j (fun i=>z i*d ^ ((tl z n)-1-i))) ι) K)) (F':=(fun ι w v=>ak w v ((dto (tl z n) (j+1) (fun i=>z i*d ^ ((tl z n)-1-i))) ι) K)) (G:=Nw ((z ((tl z n)-1-j))*(d ^ j)) (k+kp)) (.tmp 20) (.tmp 21) (by kernel_rfl) ad (fun _ _ h=>h.trans (congrArg (Value.int .i64) (by omega))) (by omega) ad rfl (fun _ _ h=>ak.cells h) (fun _ _ _ _ g h=>ak.kp h g) (fun _ _ _ g h=>ak.kp h g) (fun i w v hi h=>by rw [IS (by omega) hi];exact h) (fun w v h=>ak.more (h.eq (IT hj).symm) (by omega)) rfl)
   (lB (jr nI iI rfl (by omega) rfl)
   (lB (cI ad (rfl) rfl (by omega) (by omega))
   aC))))))))⟩)
   (lB (chF ad)
   aC)
   (fun q hq w v h=>by
    simp only [xt,List.mem_cons,List.not_mem_nil,or_false] at hq
    rcases hq with rfl
    ·exact (fun h=>h) h)) aC))))))
  (aK [.fact 0 (.one (.s)),.fact 1 (.agg [.b,.s])] ⟨Rw.Is 2 (If z k) n,fun _ _ h=>aj.is h,trivial⟩) bh
def qY (z:Nat->Int) (n k:Nat) (d:Int) (kd K:Nat):List WP:=[Rw 2 (If z k) n,Iw d kd,Nz n,fun w v=>am 2 51 (fun ι w v=>ak w v ((upto 0 (fun i=>z i*d ^ i)) ι) K) n w v,Nw (1:Int) 2,Nz n,fun w v=>am 2 51 (fun ι w v=>ak w v ((upto n (fun i=>z i*d ^ i)) ι) K) n w v]
def I5 (z:Nat->Int) (n k:Nat) (d:Int) (kd kp K:Nat) (j:Nat):List WP:=[Nz j,fun w v=>am 2 51 (fun ι w v=>ak w v ((upto j (fun i=>z i*d ^ i)) ι) K) n w v,fun _ _=>True,Nw (d ^ j) kp,Ptr 2 (Iw (z j) k),Iw (z j) k,Nw ((z j)*(d ^ j)) (k+kp),At 2,Ptr 2 (Nw ((upto j (fun i=>z i*d ^ i)) j) K),fun w v=>am 2 51 (fun ι w v=>ak w v ((upto (j+1) (fun i=>z i*d ^ i)) ι) K) n w v,Nw ((d ^ j)*d) (kp+kd),Nz (j+1)]
def xw:bj:=⟨[0,1,3,4,6,9,10,11,12,13,14],[(.slot 15,.i),(.slot 5,.s),(.cell 7 0,.b),(.cell 7 1,.s)],[(.one 0,7),(.one 1,.bZ [1] 8),(.one 1,.lo 1),(.agg [2,3],10)],[.closed (.one (.ci .i64 0)),.frm 3,.frm 0,.frm 4],7,[(8,6)]⟩
def xx:List Step:=[bQ [.fact 7,.fact 5] oT (au .lss),
   bQ [.fact 0,.fact 7] [oP 11] (aO 28),
   bQ [.fact 11] [oI 12] (aS 51),
   .base ⟨44,[.fact 12,.fact 10],[oI 13],false⟩,
   .base ⟨0,[.fact 8,.fact 7],[oP 15],.joint [1] 14 (aO 28)⟩,
   .base ⟨0,[.fact 8,.fact 7,.any,.fact 13],[oS 16],.put [] 1 0 14 (eN 51 (.tmp 20) (.tmp 21))⟩,
   .base ⟨44,[.fact 10,.fact 1],[oI 17],false⟩,
   bQ [.fact 7,.lit (.ci .i64 1)] [oN 18] (au .add)]
def I6:List Step:=[bQ [.fact 7,.fact 5] oF (au .lss)]
def I7:List Step:=[bQ [.fact 0] [oN 2] (aI 28),
   .base ⟨0,[.fact 2,.fact 2],[oS 3],.loose [] 1 0 (ff 28)⟩,
   .base ⟨75,[.lit (.ci .i64 1)],[oI 4],false⟩,
   bQ [.fact 0] [oN 5] (aI 28),
   .loop xw [(xx,[.frm 18,.frm 16,.frm 0,.frm 17])] I6]
def I8:List Out:=[oS 0,oI 1]
theorem I9 {z:Nat->Int}{n k:Nat}{d:Int}{kd kp K:Nat} (hn:n<=1000000) (hk:k<=400000) (hkd:kd<=100000) (hkp:kp<=100000) (hK:k+kp<=K) (hB:∀j,j<=n->Bd (d ^ j).natAbs kp):ai (ph (qY z n k d kd K)) Tryz.prog ⟨168,[.fact 0,.fact 1],[oS 6],false⟩:=by
 skip
 exact bg I8 [oS 6] I7 Tryz.func168 (by kernel_rfl)
  (lB (a9 (F:=(If z k)) Tryz.underlying28 ad rfl)
   (lB (rh (n:=n) (F:=(fun ι w v=>ak w v ((upto 0 (fun i=>z i*d ^ i)) ι) K)) ad (by omega) (fun i w=>ak.zero w K) rfl)
   (lB (qX (z:=1) rfl (by decide) (by decide) rfl)
   (lB (a9 (F:=(If z k)) Tryz.underlying28 ad rfl)
   (bN (counted n (fun j=>ph (qY z n k d kd K ++ I5 z n k d kd kp K j)) (fun _=>0) (fun j p hp=>bO (show p<(qY z n k d kd K).length from hp)) ⟨fun _=>rfl,ad,bp,fun _ _ h=>ak.re (h.eq (by rw [Int.pow_zero])) (hB 0 (by omega)),trivial⟩ (fun j hj=>by
   skip
   exact ⟨(xx,[.frm 18,.frm 16,.frm 0,.frm 17]),rfl,⟨ad,ad,bp,fun _ _ h=>ak.re (h.eq (by rw [Int.pow_succ])) (hB (j+1) (by omega)),trivial⟩,(lB (cA ad ad)
   (lB (b6 (i:=j) (F:=(If z k)) Tryz.underlying28 (by kernel_rfl) ad ad (by omega) rfl)
   (lB (bK (sz:=2) (F:=Iw (z j) k) (by kernel_rfl) (by kernel_rfl) ad (fun _ _ _ g h=>aj.kp h g) (fun _ _ h=>aj.is h) rfl)
   (lB (jr iI nI rfl (by omega) rfl)
   (lB (dY (i:=j) (sz:=2) (n:=n) (F:=(fun ι w v=>ak w v ((upto j (fun i=>z i*d ^ i)) ι) K)) Tryz.underlying28 (by kernel_rfl) (fun _ _ h=>am.arr h) ad (by omega) rfl rfl)
   (lB (fB (i:=j) (n:=n) (F:=(fun ι w v=>ak w v ((upto j (fun i=>z i*d ^ i)) ι) K)) (F':=(fun ι w v=>ak w v ((upto (j+1) (fun i=>z i*d ^ i)) ι) K)) (G:=Nw ((z j)*(d ^ j)) (k+kp)) (.tmp 20) (.tmp 21) (by kernel_rfl) ad ad (by omega) ad rfl (fun _ _ h=>ak.cells h) (fun _ _ _ _ g h=>ak.kp h g) (fun _ _ _ g h=>ak.kp h g) (fun i w v hi h=>by rw [kH hi];exact h) (fun w v h=>ak.more (h.eq (kJ j (fun i=>z i*d ^ i)).symm) (by omega)) rfl)
   (lB (jr nI iI rfl (by omega) rfl)
   (lB (cO ad (by omega) rfl (by omega) (by omega))
   aC))))))))⟩)
   (lB (tlF ad ad)
   aC)
   (fun q hq w v h=>by
    simp only [xw,List.mem_cons,List.not_mem_nil,or_false] at hq
    rcases hq with rfl
    ·exact (fun h=>h) h)) aC)))))
  (aK [.fact 0 (.one (.s)),.fact 1 (.agg [.b,.s])] ⟨Rw.Is 2 (If z k) n,fun _ _ h=>aj.is h,trivial⟩) bh
def k8 (S:Nat->Nat->Int) (n K:Nat) (u:Int) (ku:Nat) (s0:Option Addr) (n0 m0:Nat) (w0:World):List WP:=[fun _ u=>u = .slice s0 n0 m0,Pin w0 (.slice s0 n0 m0),Iw u ku,am 2 51 (If (S 0) K) n,eC n,Nz n,am 2 51 (If (S n) K) n,fun _ u=>u = .slice s0 n0 m0,Pin w0 (.slice s0 n0 m0)]
def Ja (S:Nat->Nat->Int) (n K:Nat) (u:Int) (ku:Nat) (s0:Option Addr) (n0 m0:Nat) (w0:World) (j i:Nat):List WP:=[Ni (((n:Nat):Int)-2-((i:Nat):Int)),am 2 51 (If (mid S n j i) K) n,fun _ _=>True,fun _ u=>u = .slice s0 n0 m0,Pin w0 (.slice s0 n0 m0),At 2,Ptr 2 (Iw ((mid S n j i) (n-2-i)) K),Iw ((mid S n j i) (n-2-i)) K,Ni ((((n:Nat):Int)-2-((i:Nat):Int))+1),At 2,Ptr 2 (Iw ((mid S n j i) (n-1-i)) K),Iw ((mid S n j i) (n-1-i)) K,Nw (((mid S n j i) (n-1-i))*u) (K+ku),Nw (((mid S n j i) (n-2-i))+(((mid S n j i) (n-1-i))*u)) (K+(K+ku)+1),At 2,Ptr 2 (Iw ((mid S n j i) (n-2-i)) K),fun w v=>am 2 51 (fun ι w v=>aj w v ((mid S n j (i+1)) ι) K) n w v,Ni ((((n:Nat):Int)-2-((i:Nat):Int))-1)]
def xy:bj:=⟨[1,3,4,6,7,8,9,10,11,12,13],[(.slot 5,.i),(.slot 0,.s)],[(.one 0,21),(.one 1,.bZ [1] 22),(.one 1,.lo 1),(.one 1,24),(.one 1,25)],[.frm 16,.frm 10,.frm 0,.frm 12,.frm 13],21,[(22,17),(24,18),(25,19)]⟩
def xz:List Step:=[bQ [.fact 21,.fact 9] oT (au .geq),
   .base ⟨0,[.fact 22,.fact 21],[oP 27],.joint [1] 26 (aO 28)⟩,
   .base ⟨0,[.fact 27],[oI 28],.gz [1] (aS 51)⟩,
   bQ [.fact 21,.lit (.ci .i64 1)] [oN 29] (au .add),
   .base ⟨0,[.fact 22,.fact 29],[oP 31],.joint [1] 30 (aO 28)⟩,
   .base ⟨0,[.fact 31],[oI 32],.gz [1] (aS 51)⟩,
   .base ⟨44,[.fact 32,.fact 2],[oI 33],.c9 [1] false⟩,
   .base ⟨67,[.fact 28,.fact 33],[oI 34],.c9 [1] false⟩,
   .base ⟨0,[.fact 22,.fact 21],[oP 36],.joint [1] 35 (aO 28)⟩,
   .base ⟨0,[.fact 22,.fact 21,.any,.fact 34],[oS 37],.put [] 1 0 35 (eN 51 (.tmp 19) (.tmp 20))⟩,
   bQ [.fact 21,.lit (.ci .i64 1)] [oN 38] (au .sub)]
def Jb:List Step:=[bQ [.fact 21,.fact 9] oF (au .geq)]
def qZ (S:Nat->Nat->Int) (n K:Nat) (_u:Int) (s0:Option Addr) (n0 m0:Nat) (w0:World) (j:Nat):List WP:=[Nz j,am 2 51 (If (S j) K) n,fun _ _=>True,fun _ u=>u = .slice s0 n0 m0,Pin w0 (.slice s0 n0 m0),eC n,Ni (((n:Nat):Int)-1),Ni (((n:Nat):Int)-2),fun w v=>am 2 51 (fun ι w v=>aj w v ((mid S n j (n-1-j)) ι) K) n w v,fun _ u=>u = .slice s0 n0 m0,Pin w0 (.slice s0 n0 m0),Nz (j+1)]
def xA:bj:=⟨[1,3,6,7],[(.slot 8,.i),(.slot 0,.s)],[(.one 0,9),(.one 1,.bZ [1] 10),(.one 1,.lo 1),(.one 1,12),(.one 1,13)],[.closed (.one (.ci .i64 0)),.frm 3,.frm 0,.frm 0,.frm 1],9,[(10,6),(12,7),(13,8)]⟩
def xB:List Step:=[bQ [.fact 9,.fact 5] oT (au .lss),
   .freed (.one (.s 5 1)) 10 14,
   .base ⟨59,[.fact 14],[oN 15],false⟩,
   bQ [.fact 15,.lit (.ci .i64 1)] [oN 16] (au .sub),
   .loop xy [(xz,[.frm 38,.frm 37,.frm 0,.frm 24,.frm 25])] Jb,
   bQ [.fact 9,.lit (.ci .i64 1)] [oN 20] (au .add)]
def Jc:List Step:=[bQ [.fact 9,.fact 5] oF (au .lss)]
def Jd:List Step:=[.freed (.one (.s 0 0)) 3 4,
   bQ [.fact 4] [oN 5] (aI 28),
   .loop xA [(xB,[.frm 20,.frm 17,.frm 0,.frm 18,.frm 19])] Jc]
def xC:List Out:=[⟨.one (.s),[(0,0,0),(0,0,1)]⟩,oI 2]
theorem Je {S:Nat->Nat->Int}{n K:Nat}{u:Int}{ku:Nat}{s0:Option Addr}{n0 m0:Nat}{w0:World} (hn:n<=1000000) (hk:K<=400000) (hku:ku<=100000) (hS:jv S u n) (hM:∀j a,j<=n->a<n->Bd (S j a).natAbs K):Cs (ph (k8 S n K u ku s0 n0 m0 w0)) Tryz.prog 167 xC 3 [6,8] (.slice s0 n0 m0) w0:=by
 skip
 exact Jf xC 3 [6,8] 7 Jd rfl Tryz.func167 (by kernel_rfl)
  (j8 (j9 (e:=51) (sz:=2) (n:=n) (F:=(If (S 0) K)) ad rfl)
   (lB (ke (n:=n) Tryz.underlying28 ad rfl)
   (bN (counted n (fun j=>ph (k8 S n K u ku s0 n0 m0 w0 ++ qZ S n K u s0 n0 m0 w0 j)) (fun _=>0) (fun j p hp=>bO (show p<(k8 S n K u ku s0 n0 m0 w0).length from hp)) ⟨fun _=>rfl,ad,bp,ad,ad,trivial⟩ (fun j hj=>by
   skip
   exact ⟨(xB,[.frm 20,.frm 17,.frm 0,.frm 18,.frm 19]),rfl,⟨ad,fun _ _ h=>am.to (sz:=2) (e:=51) (n:=n) (F:=(fun ι w v=>aj w v ((mid S n j (n-1-j)) ι) K)) (G:=(fun ι w v=>aj w v ((S (j+1)) ι) K)) h fun a w v ha h=>by rw [<- IV hS hj ha];exact h,bp,ad,ad,trivial⟩,(lB (cA ad ad)
   (j8 (j9 (e:=51) (sz:=2) (n:=n) (F:=(If (S j) K)) ad rfl)
   (lB (oO (n:=n) ad rfl (by omega) (rfl))
   (lB (cI ad (by omega) rfl (by omega) (by omega))
   (bN (counted (n-1-j) (fun i=>ph ((k8 S n K u ku s0 n0 m0 w0 ++ qZ S n K u s0 n0 m0 w0 j) ++ Ja S n K u ku s0 n0 m0 w0 j i)) (fun _=>0) (fun i p hp=>bO (show p<(k8 S n K u ku s0 n0 m0 w0 ++ qZ S n K u s0 n0 m0 w0 j).length from hp)) ⟨fun _ _ h=>h.trans (congrArg (Value.int .i64) (by omega)),fun _ _ h=>am.to (sz:=2) (e:=51) (n:=n) (F:=(fun ι w v=>aj w v ((S j) ι) K)) (G:=(fun ι w v=>aj w v ((mid S n j 0) ι) K)) h fun a w v ha h=>by rw [mid_zero hS hj ha];exact h,bp,ad,ad,trivial⟩ (fun i hi=>by
   have hi':=hi
   exact ⟨(xz,[.frm 38,.frm 37,.frm 0,.frm 24,.frm 25]),rfl,⟨fun _ _ h=>h.trans (congrArg (Value.int .i64) (by omega)),ad,bp,ad,ad,trivial⟩,(lB (ul ad ad)
   (lB (dY (i:=(n-2-i)) (sz:=2) (n:=n) (F:=(If (mid S n j i) K)) Tryz.underlying28 (by kernel_rfl) (fun _ _ h=>am.arr h) (fun _ _ h=>h.trans (congrArg (Value.int .i64) (by omega))) (by omega) rfl rfl)
   (lB (bK (sz:=2) (F:=Iw ((mid S n j i) (n-2-i)) K) (by kernel_rfl) (by kernel_rfl) ad (fun _ _ _ g h=>aj.kp h g) (fun _ _ h=>aj.is h) rfl)
   (lB (cO ad (rfl) rfl (by omega) (by omega))
   (lB (dY (i:=(n-1-i)) (sz:=2) (n:=n) (F:=(If (mid S n j i) K)) Tryz.underlying28 (by kernel_rfl) (fun _ _ h=>am.arr h) (fun _ _ h=>h.trans (congrArg (Value.int .i64) (by omega))) (by omega) rfl rfl)
   (lB (bK (sz:=2) (F:=Iw ((mid S n j i) (n-1-i)) K) (by kernel_rfl) (by kernel_rfl) ad (fun _ _ _ g h=>aj.kp h g) (fun _ _ h=>aj.is h) rfl)
   (lB (dZ [1] (jr iI iI rfl (by omega) rfl))
   (lB (dZ [1] (Jg iI nI rfl (by omega) rfl))
   (lB (dY (i:=(n-2-i)) (sz:=2) (n:=n) (F:=(If (mid S n j i) K)) Tryz.underlying28 (by kernel_rfl) (fun _ _ h=>am.arr h) (fun _ _ h=>h.trans (congrArg (Value.int .i64) (by omega))) (by omega) rfl rfl)
   (lB (fB (i:=(n-2-i)) (n:=n) (F:=(fun ι w v=>aj w v ((mid S n j i) ι) K)) (F':=(fun ι w v=>aj w v ((mid S n j (i+1)) ι) K)) (G:=Nw (((mid S n j i) (n-2-i))+(((mid S n j i) (n-1-i))*u)) (K+(K+ku)+1)) (.tmp 19) (.tmp 20) (by kernel_rfl) ad (fun _ _ h=>h.trans (congrArg (Value.int .i64) (by omega))) (by omega) ad rfl (fun _ _ h=>ak.cells h) (fun _ _ _ _ g h=>aj.kp h g) (fun _ _ _ g h=>ak.kp h g) (fun a w v ha h=>by rw [IU (S:=S) (by omega) ha];exact h) (fun w v h=>(ak.re (h.eq (IW hS hj (by omega))) (IX hM hj (by omega))).i) rfl)
   (lB (cI ad (rfl) rfl (by omega) (by omega))
   aC)))))))))))⟩)
   (lB (thF ad ad)
   aC)
   (fun q hq w v h=>by
    simp only [xy,List.mem_cons,List.not_mem_nil,or_false] at hq
    rcases hq with rfl | rfl | rfl
    ·exact (fun h=>h) h
    ·exact (fun h=>h) h
    ·exact (fun h=>h) h)) (lB (cO ad (by omega) rfl (by omega) (by omega))
   aC))))))⟩)
   (lB (tlF ad ad)
   aC)
   (fun q hq w v h=>by
    simp only [xA,List.mem_cons,List.not_mem_nil,or_false] at hq
    rcases hq with rfl | rfl | rfl
    ·exact (fun h=>h) h
    ·exact (fun h=>h) h
    ·exact (fun h=>h) h)) aC)))
section
variable {Φ:PH}{p q x n k:Nat}{z:Nat->Int}{t:Int}
theorem RK (hp:∀w v,Φ p w v->Rw 2 (If z k) n w v) (hx:Φ x=Nw t k) (hn:n<=1000000) (hk:k<=500000) (ht:tR z n=t):ai Φ Tryz.prog ⟨105,[.fact p],[⟨iS,[(0,0,x)]⟩],false⟩:=
 bi (RI hn hk) ⟨hp,trivial⟩ ⟨⟨rfl,⟨rfl,rfl,fun _ _ h=>hx▸ht▸h⟩,trivial⟩,trivial⟩
end
def hsum (c:Nat->Int) (u:Int):Nat->Nat->Int
 | 0,_=>0
 | r+1,i=>c i+hsum c u r (i+1)*u
def shS (c:Nat->Int) (u:Int) (m:Nat):Nat->Nat->Int
 | 0,i=>c i
 | j+1,i=>if i<j then shS c u m j i else hsum (shS c u m j) u (m-i) i
theorem Jh (c:Nat->Int) (u:Int) (m:Nat):jv (shS c u m) u m where
 low j i _ hi:=by simp only [shS];exact if_pos hi
 top j hj:=by
  simp only [shS]
  rw [if_neg (by omega),show m-(m-1)=0+1 by omega]
  simp only [hsum];omega
 step j i hi hn:=by
  simp only [shS]
  rw [if_neg (by omega),if_neg (by omega),show m-i=(m-(i+1))+1 by omega]
  rfl
def iE (z:Nat->Int) (n:Nat) (d:Int) (i:Nat):Int:=z i*d ^ (tl z n-1-i)
def mvS (z:Nat->Int) (n:Nat) (u d:Int):Nat->Nat->Int:=shS (iE z n d) u (tl z n)
def mvL (z:Nat->Int) (n:Nat) (u d:Int):List Int:=mk (tl z n) fun i=>mvS z n u d (tl z n) i*d ^ i
theorem j7 (z:Nat->Int) (n:Nat) (u d:Int):(mvL z n u d).length=tl z n:=eM _ _
theorem t7 {z:Nat->Int}{n:Nat}{u d:Int}{i:Nat} (h:i<tl z n):an (mvL z n u d) i=mvS z n u d (tl z n) i*d ^ i:=by rw [mvL,eu,if_pos h]
theorem jW {P:Program}{Φ Ψ:PH}{f:FuncId}{ar jt:List Arg}{outs ju:List Out}{md md':Mode} (h:er Ψ P ⟨f,jt,ju,md'⟩) (ha:d7 Φ Ψ ar jt) (ho:iD Ψ Φ ju outs):er Φ P ⟨f,ar,outs,md⟩:=
 fun X w vs hX h'=>(h X w vs hX (ha.ok h')).mono fun _ _w' ⟨hg,u,he,h2,h3⟩=>⟨hg,u,he,ho.ok h2,h3⟩
theorem er.call {P:Program}{Φ:PH}{f:FuncId}{ar:List Arg}{outs:List Out}{md:Mode} (h:er Φ P ⟨f,ar,outs,md⟩):ai Φ P ⟨f,ar,outs,false⟩:=
 fun X w vs hX h'=>(h X w vs hX h').mono fun _ _w' ⟨hg,u,he,h2,_⟩=>⟨hg,[u],he,h2⟩
theorem am.off {sz n:Nat}{e:TypeId}{F:PH}{w w1:World}{v:Value}{X:Nat->Prop} (hF:∀i w w1 v,Kp w w1->F i w v->F i w1 v) (h:am sz e F n w v) (ho:Off X w w1) (hb:∀g,blk v=some g->¬X g):am sz e F n w1 v:=by
 obtain ⟨rows,r1,r2,r3,r4⟩:=h
 refine ⟨rows,r1,r2,r3.keep fun g hg=>ho.2 g (r3.lt g hg) (hb g (by rw [jb];exact hg)),fun i r hr=>hF _ _ _ _ ho.1 (r4 i r hr)⟩
section
variable {Φ:PH}{p q r x n k ku kd kp K:Nat}{z:Nat->Int}{u d:Int}
theorem Ji (hp:∀w v,Φ p w v->Rw 2 (If z k) n w v) (hq:∀w v,Φ q w v->aj w v d kd) (hx:Φ x=am 2 51 (Nf (iE z n d) K) (tl z n))
  (hn:n<=1000000) (hk:k<=400000) (hkd:kd<=100000) (hkp:kp<=100000) (hK:k+kp<=K) (hB:∀j,j<=tl z n->Bd (d ^ j).natAbs kp):ai Φ Tryz.prog ⟨166,[.fact p,.fact q],[oS x],.et [] 1⟩:=
 jW (I4 hn hk hkd hkp hK hB) ⟨hp,hq,trivial⟩ ⟨⟨rfl,⟨rfl,rfl,fun _ _ h=>by
  rw [hx]
  exact am.to (sz:=2) (e:=51) (n:=tl z n) (F:=fun i w v=>ak w v (dto (tl z n) (tl z n) (fun i=>z i*d ^ (tl z n-1-i)) i) K) h fun i w v hi h=>h.eq (by unfold dto;rw [if_pos (by omega)];rfl)⟩,trivial⟩,trivial⟩
theorem Jj {L:List Int} (hp:∀w v,Φ p w v->Rw 2 (If z k) n w v) (hq:∀w v,Φ q w v->aj w v d kd) (hx:Φ x=Rw 2 (Nf (an L) K) L.length)
  (hn:n<=1000000) (hk:k<=400000) (hkd:kd<=100000) (hkp:kp<=100000) (hK:k+kp<=K) (hB:∀j,j<=n->Bd (d ^ j).natAbs kp) (hL:mk n (fun i=>z i*d ^ i)=L):ai Φ Tryz.prog ⟨168,[.fact p,.fact q],[oS x],false⟩:=
 bi (I9 hn hk hkd hkp hK hB) ⟨hp,hq,trivial⟩ ⟨⟨rfl,⟨rfl,rfl,fun _ _ h=>by
  rw [hx,<- hL,eM]
  exact Rw.to (am.rw (e:=51) (F:=fun i w v=>ak w v (upto n (fun i=>z i*d ^ i) i) K) h) fun i w v hi h=>h.eq (by rw [fH hi,eu,if_pos hi])⟩,trivial⟩,trivial⟩
theorem Jk {S:Nat->Nat->Int} (hp:∀w v,Φ p w v->am 2 51 (If (S 0) K) n w v) (hq:∀w v,Φ q w v->aj w v u ku) (hx:Φ x=am 2 51 (If (S n) K) n) (hn:n<=1000000) (hk:K<=400000) (hku:ku<=100000) (hS:jv S u n) (hM:∀j a,j<=n->a<n->Bd (S j a).natAbs K) :
  ai Φ Tryz.prog ⟨167,[.fact p,.fact q],[oS x],.k9 [] 1 0⟩:=fun X L W0 w vs hg hX hL hLX ha hb=>by
 match vs,ha with
 | [v,y],ha=>
  have h1:=hp _ _ (ha.1 w (Off.refl _ _))
  have h2:=hq _ _ (ha.2.1 w (Off.refl _ _))
  obtain ⟨s0,c,rfl,_⟩:=h1.arr
  have hbl:∀g,blk (.slice s0 n c)=some g->L g:=fun g hg=>hb _ g rfl hg
  refine (Jl (vs:=[.slice s0 n c,y]) (Je (s0:=s0) (n0:=n) (m0:=c) (w0:=w) hn hk hku hS hM) rfl rfl hg ⟨⟨⟨⟨_,_,_,rfl⟩,fun _ h=>by cases h⟩,fun c' hc w1 hw=>?_⟩,⟨aj.is h2,fun c' hc w1 hw=>?_⟩,trivial⟩ (fun g hg=>hL g (hbl g hg)) (fun w1 hk hh=>?_)).mono fun e w' ⟨he,hgr,hkp,hq'⟩=>⟨he,_,hgr,fun g hg=>hbl g hg,hkp,fun y hy=>?_⟩
  ·simp only [List.mem_cons,List.not_mem_nil,or_false] at hc
   rcases hc with rfl | rfl
   ·rfl
   ·exact Pin.off (u:=.slice s0 n c) hw
  ·simp only [List.mem_cons,List.not_mem_nil,or_false] at hc
   subst hc
   exact h2.kp hw.1
  ·exact am.off (X:=fun _=>False) (F:=If (S 0) K) (fun _ _ _ _ g h=>aj.kp h g) h1 ⟨hk,fun k hk' _=>hh k hk'⟩ (fun _ _ x=>x)
  ·simp only [List.getElem?_cons_zero,Option.some.injEq] at hy
   subst hy
   exact cH ⟨⟨_,_,_,rfl⟩,fun _ h=>by cases h⟩ hx fun w1 hw=>am.off (fun _ _ _ _ g h=>aj.kp h g) (F:=If (S n) K) hq' hw fun g hg=>hLX g (hbl g hg)
end
def Jm (z:Nat->Int) (n k:Nat) (u d:Int) (ku kd K1 K2 K3:Nat):List WP:=[Rw 2 (If z k) n,Iw u ku,Iw d kd,Nw 0 0,Ni (cj d (0:Int)),am 2 51 (Nf (iE z n d) K1) (tl z n),am 2 51 (If (mvS z n u d (tl z n)) K2) (tl z n),Rw 2 (Nf (an (mvL z n u d)) K3) ((mvL z n u d).length)]
def Jn:List Step:=[.derive (.agg [.cb false,.nl]) (.agg [.lit (.cb false),.lit (.nl)]) [] 3,
   .base ⟨74,[.fact 2,.fact 3],[oN 4],false⟩,
   bQ [.fact 4,.lit (.ci .i64 0)] oF (au .eql),
   .base ⟨166,[.fact 0,.fact 2],[oS 5],.et [] 1⟩,
   .base ⟨167,[.fact 5,.fact 1],[oS 6],.k9 [] 1 0⟩,
   .base ⟨168,[.fact 6,.fact 2],[oS 7],.c9 [1] false⟩]
def Jo:List Out:=[oS 0,oI 1,oI 2]
theorem Jp {z:Nat->Int}{n k:Nat}{u d:Int}{ku kd kp K1 K2 K3:Nat} (hn:n<=1000000) (hk:k<=400000) (hku:ku<=100000) (hkd:kd<=100000) (hd:d≠0) (hkp:kp<=100000) (hK:k+kp<=K1) (hK1:K1<=K2) (hK2:K2<=300000) (hK3:K2+kp<=K3) (hB:∀j,j<=tl z n->Bd (d ^ j).natAbs kp) (hM:∀j a,j<=tl z n->a<tl z n->Bd (mvS z n u d j a).natAbs K2):ai (ph (Jm z n k u d ku kd K1 K2 K3)) Tryz.prog ⟨130,[.fact 0,.fact 1,.fact 2],[oS 7,oL (.ci .i64 0)],true⟩:=by
 have hle:=aV z n
 exact bg Jo [oS 7,oL (.ci .i64 0)] Jn Tryz.func130 (by kernel_rfl)
  (eD (iq rfl)
   (lB (ir iI nI rfl (by omega) rfl)
   (lB (cn (op:=.eql) ad (cw (decide_eq_false (fun h=>hd (pC h))) (by simp)))
   (lB (Ji (kp:=kp) (Rw.To 2 (If z k) n (fun _ _ _ _ h=>h)) iI rfl hn (by omega) (by omega) (by omega) (by omega) hB)
   (lB (Jk (S:=mvS z n u d) (n:=(tl z n)) (K:=K2) (fun _ _ h=>am.to (sz:=2) (e:=51) (n:=(tl z n)) (F:=(Nf (iE z n d) K1)) (G:=(If (mvS z n u d 0) K2)) h fun _ _ _ _ h=>(ak.i h).more hK1) iI rfl (by omega) (by omega) (by omega) (Jh _ _ _) hM)
   (lB (dZ [1] (Jj (z:=mvS z n u d (tl z n)) (n:=(tl z n)) (kp:=kp) (fun _ _ h=>Rw.to (sz:=2) (n:=(tl z n)) (F:=(If (mvS z n u d (tl z n)) K2)) (am.rw h) (fun _ _ _ _ h=>h)) iI rfl (by omega) (by omega) (by omega) (by omega) (by omega) hB rfl))
   aC))))))
  (aK [.fact 0 (.one (.s)),.fact 1 (.agg [.b,.s]),.fact 2 (.agg [.b,.s])] ⟨Rw.Is 2 (If z k) n,fun _ _ h=>aj.is h,fun _ _ h=>aj.is h,trivial⟩) bh
section
variable {Φ:PH}{p q r x n k ku kd kp K1 K2 K3:Nat}{z:Nat->Int}{u d:Int}
theorem Bc {L:List Int} (hp:∀w v,Φ p w v->Rw 2 (If z k) n w v) (hq:∀w v,Φ q w v->aj w v u ku) (hr:∀w v,Φ r w v->aj w v d kd) (hx:Φ x=Rw 2 (Nf (an L) K3) L.length)
  (hn:n<=1000000) (hk:k<=400000) (hku:ku<=100000) (hkd:kd<=100000) (hd:d≠0) (hkp:kp<=100000) (hK:k+kp<=K1) (hK1:K1<=K2) (hK2:K2<=300000) (hK3:K2+kp<=K3) (hB:∀j,j<=tl z n->Bd (d ^ j).natAbs kp) (hM:∀j a,j<=tl z n->a<tl z n->Bd (mvS z n u d j a).natAbs K2) (hL:mvL z n u d=L) :
  ai Φ Tryz.prog ⟨130,[.fact p,.fact q,.fact r],[oS x,oL (.ci .i64 0)],true⟩:=
 bi (Jp hn hk hku hkd hd hkp hK hK1 hK2 hK3 hB hM) ⟨hp,hq,hr,trivial⟩ ⟨⟨rfl,⟨rfl,rfl,fun _ _ h=>hx▸hL▸h⟩,trivial⟩,⟨rfl,trivial⟩,trivial⟩
end
end Go.Proofs.YthmcngjhkmpneaaGreat.Sym
