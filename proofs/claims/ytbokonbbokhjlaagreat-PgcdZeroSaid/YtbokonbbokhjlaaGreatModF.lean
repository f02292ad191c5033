/- meets: the guess put right modulo one prime more. -/
import Derived.Test.YtbokonbbokhjlaaGreatModE
import Derived.Test.YtbokonbbokhjlaaGreatGauC
set_option maxRecDepth 100000
namespace Go.Proofs.YtbokonbbokhjlaaGreat.Sym
open Go.RowKit
def aK (p:Nat) (M:Int) (F x:Nat->Int) (k j:Nat):Int:=if j<k then F j+M*bD p (mvn p M (F j) (x j)) else F j
section
variable {p k j:Nat}{M:Int}{F x:Nat->Int}
theorem dw (h:k<=j):aK p M F x k j=F j:=if_neg (by omega)
theorem qN (h:j≠k):aK p M F x (k+1) j=aK p M F x k j:=by
 unfold aK
 split <;> split <;> first | rfl | omega
theorem lC:aK p M F x (k+1) k=F k+M*bD p (mvn p M (F k) (x k)):=if_pos (by omega)
theorem uF (h:¬mvn p M (F k) (x k)≠0):aK p M F x (k+1) j=aK p M F x k j:=by
 by_cases e:j=k
 ·subst e
  rw [lC,dw (Nat.le_refl _),Decidable.not_not.1 h,show bD p 0=0 from by unfold bD;rw [if_neg (by omega)],Int.mul_zero,Int.add_zero]
 ·exact qN e
theorem uG (h:¬mvn p M (F k) (x k)≠0):decide (∀j,j<k->mvn p M (F j) (x j)=0)=decide (∀j,j<k+1->mvn p M (F j) (x j)=0):=by
 refine decide_eq_decide.2 ⟨fun h1 j hj=>?_,fun h1 j hj=>h1 j (by omega)⟩
 by_cases e:j=k
 ·rw [e];exact Decidable.not_not.1 h
 ·exact h1 j (by omega)
end
def uH (F x:Nat->Int) (M:Int) (l K kM p:Nat) (s0:Option Addr) (n0 m0 B:Nat) (w0:World):List WP:=[ah 2 52 (Nf F K) l,Rw 1 (au .u64 x) l,Nu ((p:Nat):Int),Nw M kM,yX w0 B (.slice s0 n0 m0),fun _ u=>u = .pointer (some ⟨B,0,none⟩),b9 l,Nz l,Nz l,Nz l,Nz l,Nz l,Nu (M % ((p:Nat):Int)),Nu (bL p (M % ((p:Nat):Int))),Nz l,ah 2 52 (Nf (aK p M F x l) K) l,yX w0 B (.slice s0 n0 m0),fun _ v=>v = .bool (decide (∀j,j<l->mvn p M (F j) (x j)=0)),Nz p,Nw ((p:Nat):Int) 2,Nw (M*((p:Nat):Int)) (kM+2)]
def Pd (F x:Nat->Int) (M:Int) (l K kM p:Nat) (s0:Option Addr) (n0 m0 B:Nat) (w0:World) (k:Nat):List WP:=[Nz k,ah 2 52 (Nf (aK p M F x k) K) l,fun _ _=>True,fun _ v=>v = .bool (decide (∀j,j<k->mvn p M (F j) (x j)=0)),yX w0 B (.slice s0 n0 m0),fun w v=>Ptr 1 (fun _ v=>v = .agg #[.int .u64 (x k)]) w v,Nu (x k),Nu (x k+(p:Int)),At 2,Ptr 2 (Nw ((aK p M F x k) k) K),Nw ((aK p M F x k) k) K,Nu (((aK p M F x k) k) % ((p:Nat):Int)),Nu (x k+(p:Int)-F k % (p:Int)),Nu ((x k+(p:Int)-F k % (p:Int)) % (p:Int)),Nu ((x k+(p:Int)-F k % (p:Int)) % (p:Int)*bL p (M % (p:Int))),Nu (mvn p M (F k) (x k)),At 2,Ptr 2 (Nw ((aK p M F x k) k) K),Nw ((aK p M F x k) k) K,Nw (bD p (mvn p M (F k) (x k))) 2,Nw (M*(bD p (mvn p M (F k) (x k)))) (kM+2),Nw (((aK p M F x k) k)+(M*(bD p (mvn p M (F k) (x k))))) (K+(kM+2)+1),At 2,Ptr 2 (Nw ((aK p M F x k) k) K),fun w v=>ah 2 52 (fun ι w v=>af w v ((aK p M F x (k+1)) ι) K) l w v,Nz (k+1),fun w v=>Ptr 1 (fun _ v=>v = .agg #[.int .u64 (x k)]) w v,Nu (x k),Nu (x k+(p:Int)),At 2,Ptr 2 (Nw ((aK p M F x k) k) K),Nw ((aK p M F x k) k) K,Nu (((aK p M F x k) k) % ((p:Nat):Int)),Nu (x k+(p:Int)-F k % (p:Int)),Nu ((x k+(p:Int)-F k % (p:Int)) % (p:Int)),Nu ((x k+(p:Int)-F k % (p:Int)) % (p:Int)*bL p (M % (p:Int))),Nu (mvn p M (F k) (x k)),Nz (k+1)]
def BP:bg:=⟨[0,1,2,6,8,12,13,14,15,16,17,18,19,20,21,22,23,24,25,26,27,28,29,30,31,32,33,34,35,43,44,45,46,47,48,49,50,51,52],[(.slot 53,.i),(.cell 0 0,.s),(.slot 7,.b)],[(.one 0,21),(.one 1,.Ru [1] 22),(.one 1,.lo 1),(.one 2,24),(.one 1,25)],[.closed (.one (.ci .i64 0)),.frm 0,.frm 0,.closed (.one (.cb true)),.frm 4],21,[(22,15),(25,16),(24,17)]⟩
def BQ:List Step:=[bQ [.fact 21,.fact 14] oT (ak .lss),
   bQ [.fact 1,.fact 21] [oP 26] (aG 126),
   bQ [.fact 26] [oK 27] (aM 103),
   bQ [.fact 27,.fact 2] [oK 28] (aA .add),
   .base ⟨0,[.fact 22,.fact 21],[oP 30],.joint [1] 29 (aG 28)⟩,
   .base ⟨0,[.fact 30],[oI 31],.dd [1] (aM 52)⟩,
   .base ⟨115,[.fact 31,.fact 2],[oK 32],false⟩,
   bQ [.fact 28,.fact 32] [oK 33] (aA .sub),
   bQ [.fact 33,.fact 2] [oK 34] (aA .rem),
   bQ [.fact 34,.fact 13] [oK 35] (aA .mul),
   bQ [.fact 35,.fact 2] [oK 36] (aA .rem),
   bQ [.fact 36,.lit (.ci .u64 0)] oT (aA .gtr),
   .base ⟨0,[.fact 22,.fact 21],[oP 38],.joint [1] 37 (aG 28)⟩,
   .base ⟨0,[.fact 38],[oI 39],.dd [1] (aM 52)⟩,
   .base ⟨139,[.fact 36,.fact 2],[oI 40],false⟩,
   .base ⟨63,[.fact 3,.fact 40],[oI 41],false⟩,
   .base ⟨62,[.fact 39,.fact 41],[oI 42],false⟩,
   .base ⟨0,[.fact 22,.fact 21],[oP 44],.joint [1] 43 (aG 28)⟩,
   .base ⟨0,[.fact 22,.fact 21,.any,.fact 42],[oS 45],.put [] 1 0 43 (dV 52 (.tmp 82) (.tmp 83))⟩,
   bQ [.fact 21,.lit (.ci .i64 1)] [oN 46] (ak .add)]
def BS:List Step:=[bQ [.fact 21,.fact 14] oT (ak .lss),
   bQ [.fact 1,.fact 21] [oP 47] (aG 126),
   bQ [.fact 47] [oK 48] (aM 103),
   bQ [.fact 48,.fact 2] [oK 49] (aA .add),
   .base ⟨0,[.fact 22,.fact 21],[oP 51],.joint [1] 50 (aG 28)⟩,
   .base ⟨0,[.fact 51],[oI 52],.dd [1] (aM 52)⟩,
   .base ⟨115,[.fact 52,.fact 2],[oK 53],false⟩,
   bQ [.fact 49,.fact 53] [oK 54] (aA .sub),
   bQ [.fact 54,.fact 2] [oK 55] (aA .rem),
   bQ [.fact 55,.fact 13] [oK 56] (aA .mul),
   bQ [.fact 56,.fact 2] [oK 57] (aA .rem),
   bQ [.fact 57,.lit (.ci .u64 0)] oF (aA .gtr),
   bQ [.fact 21,.lit (.ci .i64 1)] [oN 58] (ak .add)]
def Pe:List Step:=[bQ [.fact 21,.fact 14] oF (ak .lss)]
def Pf:List Step:=[.freed (.one (.s 0 0)) 0 6,
   bQ [.fact 6] [oN 7] (aD 28),
   bQ [.fact 7,.lit (.ci .i64 0)] oT (ak .gtr),
   bQ [.fact 1] [oN 8] (aD 126),
   bQ [.fact 6] [oN 9] (aD 28),
   bQ [.fact 8,.fact 9] oF (ak .gtr),
   bQ [.fact 1] [oN 10] (aD 126),
   bQ [.fact 6] [oN 11] (aD 28),
   bQ [.fact 10,.fact 11] oF (ak .neq),
   .base ⟨115,[.fact 3,.fact 2],[oK 12],false⟩,
   .base ⟨136,[.fact 12,.fact 2],[oK 13],false⟩,
   bQ [.fact 1] [oN 14] (aD 126),
   .loop BP [(BQ,[.frm 46,.frm 45,.frm 0,.closed (.one (.cb false)),.frm 25]),(BS,[.frm 58,.frm 22,.frm 0,.frm 24,.frm 25])] Pe,
   bQ [.fact 2] [oN 18] (gz 103 3),
   .base ⟨59,[.fact 18],[oI 19],false⟩,
   .base ⟨63,[.fact 3,.fact 19],[oI 20],false⟩]
def BT:Out:=⟨.agg [.s,.b,.s],[(0,1,0)]⟩
def BU:List Out:=[oS 1,oK 2]
theorem Pg {F x:Nat->Int}{M:Int}{l K kM p:Nat}{s0:Option Addr}{n0 m0 B:Nat}{w0:World} (hl:l<=1000000) (hp0:1<p) (eJ:p<2147483648) (hK:K<=90000) (hkM:kM<=90000) (hx:∀j,0<=x j∧x j<p) (hF:∀j,F j=F j) (hB:∀k,k<l->Bd (F k+M*bD p (mvn p M (F k) (x k))).natAbs K) (hl0:0<l):mG (ph (uH F x M l K kM p s0 n0 m0 B w0)) Tryz.prog 118 BT [(1,2,3)] BU 3 ⟨.one (.b),[(0,0,17)]⟩ ⟨.agg [.s,.b,.s],[(0,1,15),(1,2,20)]⟩ (.slice s0 n0 m0) B w0:=by
 skip
 exact qO BT [(1,2,3)] BU 3 ⟨.one (.b),[(0,0,17)]⟩ ⟨.agg [.s,.b,.s],[(0,1,15),(1,2,20)]⟩ 4 5 16 Pf rfl rfl rfl Tryz.func118 (by kernel_rfl)
  (cV (cW (e:=52) (sz:=2) (n:=l) (F:=(Nf F K)) ad rfl)
   (lB (ce (n:=l) Tryz.underlying28 ad rfl)
   (lB (d3 ad)
   (lB (aP (F:=(au .u64 x)) Tryz.underlying126 ad rfl)
   (lB (ce (n:=l) Tryz.underlying28 ad rfl)
   (lB (BV ad ad)
   (lB (aP (F:=(au .u64 x)) Tryz.underlying126 ad rfl)
   (lB (ce (n:=l) Tryz.underlying28 ad rfl)
   (lB (jh (op:=.neq) ad ad (bN (decide_eq_false (fun h=>h rfl)) (by simp)))
   (lB (d9 (P:=p) nI ad rfl (by omega) (by omega) (by omega))
   (lB (n9 (P:=p) (a:=(M % ((p:Nat):Int))) ad ad rfl (Int.emod_nonneg _ (by omega)) (by have:=Int.emod_lt_of_pos M (b:=(p:Int)) (by omega);omega) (by omega) (by omega))
   (lB (aP (F:=(au .u64 x)) Tryz.underlying126 ad rfl)
   (bz (counted l (fun k=>ph (uH F x M l K kM p s0 n0 m0 B w0 ++ Pd F x M l K kM p s0 n0 m0 B w0 k)) (fun k=>if mvn p M (F k) (x k)≠0 then 0 else 1) (fun k p hp=>bB (show p<(uH F x M l K kM p s0 n0 m0 B w0).length from hp)) ⟨fun _=>rfl,fun _ _ h=>ah.to (sz:=2) (e:=52) (n:=l) (F:=(fun ι w v=>af w v (F ι) K)) (G:=(fun ι w v=>af w v ((aK p M F x 0) ι) K)) h fun i w v hi h=>by rw [dw (Nat.zero_le _)];exact h,aS,fun _=>congrArg Value.bool (decide_eq_true fun j hj=>absurd hj (Nat.not_lt_zero j)).symm,ad,trivial⟩ (fun k hk=>by
   have h1:=hx k;have h2:=hF k;have h3:=Int.emod_nonneg (F k) (b:=(p:Int)) (by omega);have h4:=Int.emod_lt_of_pos (F k) (b:=(p:Int)) (by omega);have h5:=Int.emod_nonneg (x k+(p:Int)-F k % (p:Int)) (b:=(p:Int)) (by omega);have h6:=Int.emod_lt_of_pos (x k+(p:Int)-F k % (p:Int)) (b:=(p:Int)) (by omega);have h7:=og (p:=p) (x:=M % (p:Int)) hp0;have h8:=n5 ⟨h5,(by omega:(x k+(p:Int)-F k % (p:Int)) % (p:Int)<2147483648)⟩ ⟨h7.1,(by omega:bL p (M % (p:Int))<2147483648)⟩;have h9:=nJ (p:=p) (by omega) M (F k) (x k)
   by_cases hck:mvn p M (F k) (x k)≠0
   ·skip
    exact ⟨(BQ,[.frm 46,.frm 45,.frm 0,.closed (.one (.cb false)),.frm 25]),by rw [if_pos hck];rfl,⟨ad,ad,aS,fun _=>congrArg Value.bool (decide_eq_false fun h=>hck (h k (Nat.lt_succ_self k))).symm,ad,trivial⟩,(lB (cU ad ad)
   (lB (bZ (i:=k) (F:=(au .u64 x)) Tryz.underlying126 (by kernel_rfl) ad ad (by omega) rfl)
   (lB (gA (by kernel_rfl) ad rfl)
   (lB (bk (op:=.add) ad ad (lp rfl (by omega) (by omega) (by omega)) rfl)
   (lB (bI (i:=k) (sz:=2) (n:=l) (F:=(Nf (aK p M F x k) K)) Tryz.underlying28 (by kernel_rfl) (fun _ _ h=>ah.arr h) ad (by omega) rfl rfl)
   (lB (ff (sz:=2) (F:=Nw ((aK p M F x k) k) K) (by kernel_rfl) (by kernel_rfl) ad (fun _ _ _ g h=>af.kp h g) (fun _ _ h=>af.is h) rfl)
   (lB (d9 (P:=p) nI ad rfl (by omega) (by omega) (by omega))
   (lB (bk (op:=.sub) ad ad (eu (by rw [dw (Nat.le_refl _)]) (by rw [dw (Nat.le_refl _)];omega) (by rw [dw (Nat.le_refl _)];omega) (by omega)) rfl)
   (lB (bk (op:=.rem) ad ad (d8 rfl (by omega) (by omega)) rfl)
   (lB (bk (op:=.mul) ad ad (jc rfl (by omega) (by omega) (by omega)) rfl)
   (lB (bk (op:=.rem) ad ad (d8 rfl (by omega) (by omega)) rfl)
   (lB (ugT ad)
   (lB (bI (i:=k) (sz:=2) (n:=l) (F:=(Nf (aK p M F x k) K)) Tryz.underlying28 (by kernel_rfl) (fun _ _ h=>ah.arr h) ad (by omega) rfl rfl)
   (lB (ff (sz:=2) (F:=Nw ((aK p M F x k) k) K) (by kernel_rfl) (by kernel_rfl) ad (fun _ _ _ g h=>af.kp h g) (fun _ _ h=>af.is h) rfl)
   (lB (uC (P:=p) ad ad rfl h9.1 h9.2 (by omega) (by omega))
   (lB (g9 nI nI rfl (by omega) rfl)
   (lB (qP nI nI rfl (by omega) rfl)
   (lB (bI (i:=k) (sz:=2) (n:=l) (F:=(Nf (aK p M F x k) K)) Tryz.underlying28 (by kernel_rfl) (fun _ _ h=>ah.arr h) ad (by omega) rfl rfl)
   (lB (fo (i:=k) (n:=l) (F:=(fun ι w v=>af w v ((aK p M F x k) ι) K)) (F':=(fun ι w v=>af w v ((aK p M F x (k+1)) ι) K)) (G:=Nw (((aK p M F x k) k)+(M*(bD p (mvn p M (F k) (x k))))) (K+(kM+2)+1)) (.tmp 82) (.tmp 83) (by kernel_rfl) ad ad (by omega) ad rfl (fun _ _ h=>af.cells h) (fun _ _ _ _ g h=>af.kp h g) (fun _ _ _ g h=>af.kp h g) (fun i w v hi h=>by rw [qN hi];exact h) (fun w v h=>af.re (h.eq (by rw [dw (Nat.le_refl _),lC])) (by rw [lC];exact hB k hk)) rfl)
   (lB (cN ad (by omega) rfl (by omega) (by omega))
   aw))))))))))))))))))))⟩
   ·skip
    exact ⟨(BS,[.frm 58,.frm 22,.frm 0,.frm 24,.frm 25]),by rw [if_neg hck];rfl,⟨ad,fun _ _ h=>ah.to (sz:=2) (e:=52) (n:=l) (F:=(fun ι w v=>af w v ((aK p M F x k) ι) K)) (G:=(fun ι w v=>af w v ((aK p M F x (k+1)) ι) K)) h fun i w v hi h=>by rw [uF hck];exact h,aS,fun _ _ h=>h.trans (congrArg Value.bool (uG hck)),ad,trivial⟩,(lB (cU ad ad)
   (lB (bZ (i:=k) (F:=(au .u64 x)) Tryz.underlying126 (by kernel_rfl) ad ad (by omega) rfl)
   (lB (gA (by kernel_rfl) ad rfl)
   (lB (bk (op:=.add) ad ad (lp rfl (by omega) (by omega) (by omega)) rfl)
   (lB (bI (i:=k) (sz:=2) (n:=l) (F:=(Nf (aK p M F x k) K)) Tryz.underlying28 (by kernel_rfl) (fun _ _ h=>ah.arr h) ad (by omega) rfl rfl)
   (lB (ff (sz:=2) (F:=Nw ((aK p M F x k) k) K) (by kernel_rfl) (by kernel_rfl) ad (fun _ _ _ g h=>af.kp h g) (fun _ _ h=>af.is h) rfl)
   (lB (d9 (P:=p) nI ad rfl (by omega) (by omega) (by omega))
   (lB (bk (op:=.sub) ad ad (eu (by rw [dw (Nat.le_refl _)]) (by rw [dw (Nat.le_refl _)];omega) (by rw [dw (Nat.le_refl _)];omega) (by omega)) rfl)
   (lB (bk (op:=.rem) ad ad (d8 rfl (by omega) (by omega)) rfl)
   (lB (bk (op:=.mul) ad ad (jc rfl (by omega) (by omega) (by omega)) rfl)
   (lB (bk (op:=.rem) ad ad (d8 rfl (by omega) (by omega)) rfl)
   (lB (cY (op:=.gtr) ad (bT (decide_eq_false (by omega)) (by simp)))
   (lB (cN ad (by omega) rfl (by omega) (by omega))
   aw)))))))))))))⟩
)
   (lB (tlF ad ad)
   aw)
   (fun q hq w v h=>by
    simp only [BP,List.mem_cons,List.not_mem_nil,or_false] at hq
    rcases hq with rfl | rfl | rfl
    ·exact (fun h=>h) h
    ·exact (fun h=>h) h
    ·exact (fun h=>h) h)) (lB (mC (by kernel_rfl) Tryz.underlying3 ad (mF (by omega) (by omega)) rfl)
   (lB (lA ad rfl (by omega) (by omega) rfl)
   (lB (g9 nI nI rfl (by omega) rfl)
   aw))))))))))))))))
def uI (F x F0:Nat->Int) (M0:Int) (l l0 K K0 kM p:Nat) (s0:Option Addr) (n0 m0 B:Nat) (w0:World):List WP:=[ah 2 52 (Nf F0 K0) l0,Rw 1 (au .u64 x) l,Nu ((p:Nat):Int),Nw M0 kM,yX w0 B (.slice s0 n0 m0),fun _ u=>u = .pointer (some ⟨B,0,none⟩),b9 l0,Nz l0,Nz l,Nz l0,Nz l,ah 2 52 (Nf F K) l,Nw (1:Int) 2,Nu ((1:Int) % ((p:Nat):Int)),Nu (bL p ((1:Int) % ((p:Nat):Int))),Nz l,ah 2 52 (Nf (aK p (1:Int) F x l) K) l,fun _ v=>v = .bool (decide (∀j,j<l->mvn p (1:Int) (F j) (x j)=0)),Nz p,Nw ((p:Nat):Int) 2,Nw ((1:Int)*((p:Nat):Int)) (2+2)]
def Ph (F x:Nat->Int) (l K p:Nat) (k:Nat):List WP:=[Nz k,ah 2 52 (Nf (aK p (1:Int) F x k) K) l,fun _ _=>True,fun _ v=>v = .bool (decide (∀j,j<k->mvn p (1:Int) (F j) (x j)=0)),fun w v=>Ptr 1 (fun _ v=>v = .agg #[.int .u64 (x k)]) w v,Nu (x k),Nu (x k+(p:Int)),At 2,Ptr 2 (Nw ((aK p (1:Int) F x k) k) K),Nw ((aK p (1:Int) F x k) k) K,Nu (((aK p (1:Int) F x k) k) % ((p:Nat):Int)),Nu (x k+(p:Int)-F k % (p:Int)),Nu ((x k+(p:Int)-F k % (p:Int)) % (p:Int)),Nu ((x k+(p:Int)-F k % (p:Int)) % (p:Int)*bL p ((1:Int) % (p:Int))),Nu (mvn p (1:Int) (F k) (x k)),At 2,Ptr 2 (Nw ((aK p (1:Int) F x k) k) K),Nw ((aK p (1:Int) F x k) k) K,Nw (bD p (mvn p (1:Int) (F k) (x k))) 2,Nw ((1:Int)*(bD p (mvn p (1:Int) (F k) (x k)))) (2+2),Nw (((aK p (1:Int) F x k) k)+((1:Int)*(bD p (mvn p (1:Int) (F k) (x k))))) (K+(2+2)+1),At 2,Ptr 2 (Nw ((aK p (1:Int) F x k) k) K),fun w v=>ah 2 52 (fun ι w v=>af w v ((aK p (1:Int) F x (k+1)) ι) K) l w v,Nz (k+1),fun w v=>Ptr 1 (fun _ v=>v = .agg #[.int .u64 (x k)]) w v,Nu (x k),Nu (x k+(p:Int)),At 2,Ptr 2 (Nw ((aK p (1:Int) F x k) k) K),Nw ((aK p (1:Int) F x k) k) K,Nu (((aK p (1:Int) F x k) k) % ((p:Nat):Int)),Nu (x k+(p:Int)-F k % (p:Int)),Nu ((x k+(p:Int)-F k % (p:Int)) % (p:Int)),Nu ((x k+(p:Int)-F k % (p:Int)) % (p:Int)*bL p ((1:Int) % (p:Int))),Nu (mvn p (1:Int) (F k) (x k)),Nz (k+1)]
def BW:bg:=⟨[0,1,2,6,8,12,13,14,15,16,17,18,19,20,21,22,23,24,25,26,27,28,29,30,31,32,33,34,35,36,37,38,39,40,41,42,43,44,45,46,47,48,49,50,51,52],[(.slot 53,.i),(.cell 0 0,.s),(.slot 7,.b)],[(.one 0,21),(.one 1,.Ru [2] 22),(.one 1,.lo 2),(.one 2,24)],[.closed (.one (.ci .i64 0)),.frm 11,.frm 0,.closed (.one (.cb true))],21,[(22,16),(24,17)]⟩
def BZ:List Step:=[bQ [.fact 21,.fact 15] oT (ak .lss),
   bQ [.fact 1,.fact 21] [oP 25] (aG 126),
   bQ [.fact 25] [oK 26] (aM 103),
   bQ [.fact 26,.fact 2] [oK 27] (aA .add),
   .base ⟨0,[.fact 22,.fact 21],[oP 29],.joint [2] 28 (aG 28)⟩,
   .base ⟨0,[.fact 29],[oI 30],.dd [2] (aM 52)⟩,
   .base ⟨115,[.fact 30,.fact 2],[oK 31],false⟩,
   bQ [.fact 27,.fact 31] [oK 32] (aA .sub),
   bQ [.fact 32,.fact 2] [oK 33] (aA .rem),
   bQ [.fact 33,.fact 14] [oK 34] (aA .mul),
   bQ [.fact 34,.fact 2] [oK 35] (aA .rem),
   bQ [.fact 35,.lit (.ci .u64 0)] oT (aA .gtr),
   .base ⟨0,[.fact 22,.fact 21],[oP 37],.joint [2] 36 (aG 28)⟩,
   .base ⟨0,[.fact 37],[oI 38],.dd [2] (aM 52)⟩,
   .base ⟨139,[.fact 35,.fact 2],[oI 39],false⟩,
   .base ⟨63,[.fact 12,.fact 39],[oI 40],false⟩,
   .base ⟨62,[.fact 38,.fact 40],[oI 41],false⟩,
   .base ⟨0,[.fact 22,.fact 21],[oP 43],.joint [2] 42 (aG 28)⟩,
   .base ⟨0,[.fact 22,.fact 21,.any,.fact 41],[oS 44],.put [] 2 0 42 (dV 52 (.tmp 82) (.tmp 83))⟩,
   bQ [.fact 21,.lit (.ci .i64 1)] [oN 45] (ak .add)]
def B1:List Step:=[bQ [.fact 21,.fact 15] oT (ak .lss),
   bQ [.fact 1,.fact 21] [oP 46] (aG 126),
   bQ [.fact 46] [oK 47] (aM 103),
   bQ [.fact 47,.fact 2] [oK 48] (aA .add),
   .base ⟨0,[.fact 22,.fact 21],[oP 50],.joint [2] 49 (aG 28)⟩,
   .base ⟨0,[.fact 50],[oI 51],.dd [2] (aM 52)⟩,
   .base ⟨115,[.fact 51,.fact 2],[oK 52],false⟩,
   bQ [.fact 48,.fact 52] [oK 53] (aA .sub),
   bQ [.fact 53,.fact 2] [oK 54] (aA .rem),
   bQ [.fact 54,.fact 14] [oK 55] (aA .mul),
   bQ [.fact 55,.fact 2] [oK 56] (aA .rem),
   bQ [.fact 56,.lit (.ci .u64 0)] oF (aA .gtr),
   bQ [.fact 21,.lit (.ci .i64 1)] [oN 57] (ak .add)]
def Pi:List Step:=[bQ [.fact 21,.fact 15] oF (ak .lss)]
def Pj:List Step:=[.freed (.one (.s 0 0)) 0 6,
   bQ [.fact 6] [oN 7] (aD 28),
   bQ [.fact 7,.lit (.ci .i64 0)] oF (ak .gtr),
   bQ [.fact 1] [oN 8] (aD 126),
   bQ [.fact 6] [oN 9] (aD 28),
   bQ [.fact 8,.fact 9] oT (ak .neq),
   bQ [.fact 1] [oN 10] (aD 126),
   .base ⟨0,[.fact 10,.fact 10],[oS 11],.loose [] 2 0 (fp 28)⟩,
   .base ⟨59,[.lit (.ci .i64 1)],[oI 12],false⟩,
   .base ⟨115,[.fact 12,.fact 2],[oK 13],false⟩,
   .base ⟨136,[.fact 13,.fact 2],[oK 14],false⟩,
   bQ [.fact 1] [oN 15] (aD 126),
   .loop BW [(BZ,[.frm 45,.frm 44,.frm 0,.closed (.one (.cb false))]),(B1,[.frm 57,.frm 22,.frm 0,.frm 24])] Pi,
   bQ [.fact 2] [oN 18] (gz 103 3),
   .base ⟨59,[.fact 18],[oI 19],false⟩,
   .base ⟨63,[.fact 12,.fact 19],[oI 20],false⟩]
def B4:Out:=⟨.agg [.s,.b,.s],[(0,1,0)]⟩
def B5:List Out:=[oS 1,oK 2]
theorem Pk {F x F0:Nat->Int}{M0:Int}{l l0 K K0 kM p:Nat}{s0:Option Addr}{n0 m0 B:Nat}{w0:World} (hl:l<=1000000) (hp0:1<p) (eJ:p<2147483648) (hK:K<=90000) (_hkM:kM<=90000) (hx:∀j,0<=x j∧x j<p) (hF:∀j,F j=F j) (hB:∀k,k<l->Bd (F k+(1:Int)*bD p (mvn p (1:Int) (F k) (x k))).natAbs K) (hl0:0<l) (_hne:l≠l0) (_hlt:l0=0∨l<l0) (_hl00:l0<=1000000) (hF0:F=fun _=>0) (_hK0:K0<=90000) (h00:l0=0):mG (ph (uI F x F0 M0 l l0 K K0 kM p s0 n0 m0 B w0)) Tryz.prog 118 B4 [(1,2,3)] B5 3 ⟨.one (.b),[(0,0,17)]⟩ ⟨.agg [.s,.b,.s],[(0,1,16),(1,2,20)]⟩ (.slice s0 n0 m0) B w0:=by
 skip
 exact qO B4 [(1,2,3)] B5 3 ⟨.one (.b),[(0,0,17)]⟩ ⟨.agg [.s,.b,.s],[(0,1,16),(1,2,20)]⟩ 4 5 4 Pj rfl rfl rfl Tryz.func118 (by kernel_rfl)
  (cV (cW (e:=52) (sz:=2) (n:=l0) (F:=(Nf F0 K0)) ad rfl)
   (lB (ce (n:=l0) Tryz.underlying28 ad rfl)
   (lB (jW ad)
   (lB (aP (F:=(au .u64 x)) Tryz.underlying126 ad rfl)
   (lB (ce (n:=l0) Tryz.underlying28 ad rfl)
   (lB (jh (op:=.neq) ad ad (bN (decide_eq_true (by omega)) (by simp)))
   (lB (aP (F:=(au .u64 x)) Tryz.underlying126 ad rfl)
   (lB (gZ (n:=l) (F:=(fun ι w v=>af w v (F ι) K)) ad (by omega) (fun k w=>by rw [hF0];exact af.zero w K) rfl)
   (lB (B6 (z:=1) rfl (by decide) (by decide) rfl)
   (lB (d9 (P:=p) nI ad rfl (by omega) (by omega) (by omega))
   (lB (n9 (P:=p) (a:=((1:Int) % ((p:Nat):Int))) ad ad rfl (Int.emod_nonneg _ (by omega)) (by have:=Int.emod_lt_of_pos (1:Int) (b:=(p:Int)) (by omega);omega) (by omega) (by omega))
   (lB (aP (F:=(au .u64 x)) Tryz.underlying126 ad rfl)
   (bz (counted l (fun k=>ph (uI F x F0 M0 l l0 K K0 kM p s0 n0 m0 B w0 ++ Ph F x l K p k)) (fun k=>if mvn p (1:Int) (F k) (x k)≠0 then 0 else 1) (fun k p hp=>bB (show p<(uI F x F0 M0 l l0 K K0 kM p s0 n0 m0 B w0).length from hp)) ⟨fun _=>rfl,fun _ _ h=>ah.to (sz:=2) (e:=52) (n:=l) (F:=(fun ι w v=>af w v (F ι) K)) (G:=(fun ι w v=>af w v ((aK p (1:Int) F x 0) ι) K)) h fun i w v hi h=>by rw [dw (Nat.zero_le _)];exact h,aS,fun _=>congrArg Value.bool (decide_eq_true fun j hj=>absurd hj (Nat.not_lt_zero j)).symm,trivial⟩ (fun k hk=>by
   have h1:=hx k;have h2:=hF k;have h3:=Int.emod_nonneg (F k) (b:=(p:Int)) (by omega);have h4:=Int.emod_lt_of_pos (F k) (b:=(p:Int)) (by omega);have h5:=Int.emod_nonneg (x k+(p:Int)-F k % (p:Int)) (b:=(p:Int)) (by omega);have h6:=Int.emod_lt_of_pos (x k+(p:Int)-F k % (p:Int)) (b:=(p:Int)) (by omega);have h7:=og (p:=p) (x:=(1:Int) % (p:Int)) hp0;have h8:=n5 ⟨h5,(by omega:(x k+(p:Int)-F k % (p:Int)) % (p:Int)<2147483648)⟩ ⟨h7.1,(by omega:bL p ((1:Int) % (p:Int))<2147483648)⟩;have h9:=nJ (p:=p) (by omega) (1:Int) (F k) (x k)
   by_cases hck:mvn p (1:Int) (F k) (x k)≠0
   ·skip
    exact ⟨(BZ,[.frm 45,.frm 44,.frm 0,.closed (.one (.cb false))]),by rw [if_pos hck];rfl,⟨ad,ad,aS,fun _=>congrArg Value.bool (decide_eq_false fun h=>hck (h k (Nat.lt_succ_self k))).symm,trivial⟩,(lB (cU ad ad)
   (lB (bZ (i:=k) (F:=(au .u64 x)) Tryz.underlying126 (by kernel_rfl) ad ad (by omega) rfl)
   (lB (gA (by kernel_rfl) ad rfl)
   (lB (bk (op:=.add) ad ad (lp rfl (by omega) (by omega) (by omega)) rfl)
   (lB (bI (i:=k) (sz:=2) (n:=l) (F:=(Nf (aK p (1:Int) F x k) K)) Tryz.underlying28 (by kernel_rfl) (fun _ _ h=>ah.arr h) ad (by omega) rfl rfl)
   (lB (ff (sz:=2) (F:=Nw ((aK p (1:Int) F x k) k) K) (by kernel_rfl) (by kernel_rfl) ad (fun _ _ _ g h=>af.kp h g) (fun _ _ h=>af.is h) rfl)
   (lB (d9 (P:=p) nI ad rfl (by omega) (by omega) (by omega))
   (lB (bk (op:=.sub) ad ad (eu (by rw [dw (Nat.le_refl _)]) (by rw [dw (Nat.le_refl _)];omega) (by rw [dw (Nat.le_refl _)];omega) (by omega)) rfl)
   (lB (bk (op:=.rem) ad ad (d8 rfl (by omega) (by omega)) rfl)
   (lB (bk (op:=.mul) ad ad (jc rfl (by omega) (by omega) (by omega)) rfl)
   (lB (bk (op:=.rem) ad ad (d8 rfl (by omega) (by omega)) rfl)
   (lB (ugT ad)
   (lB (bI (i:=k) (sz:=2) (n:=l) (F:=(Nf (aK p (1:Int) F x k) K)) Tryz.underlying28 (by kernel_rfl) (fun _ _ h=>ah.arr h) ad (by omega) rfl rfl)
   (lB (ff (sz:=2) (F:=Nw ((aK p (1:Int) F x k) k) K) (by kernel_rfl) (by kernel_rfl) ad (fun _ _ _ g h=>af.kp h g) (fun _ _ h=>af.is h) rfl)
   (lB (uC (P:=p) ad ad rfl h9.1 h9.2 (by omega) (by omega))
   (lB (g9 nI nI rfl (by omega) rfl)
   (lB (qP nI nI rfl (by omega) rfl)
   (lB (bI (i:=k) (sz:=2) (n:=l) (F:=(Nf (aK p (1:Int) F x k) K)) Tryz.underlying28 (by kernel_rfl) (fun _ _ h=>ah.arr h) ad (by omega) rfl rfl)
   (lB (fo (i:=k) (n:=l) (F:=(fun ι w v=>af w v ((aK p (1:Int) F x k) ι) K)) (F':=(fun ι w v=>af w v ((aK p (1:Int) F x (k+1)) ι) K)) (G:=Nw (((aK p (1:Int) F x k) k)+((1:Int)*(bD p (mvn p (1:Int) (F k) (x k))))) (K+(2+2)+1)) (.tmp 82) (.tmp 83) (by kernel_rfl) ad ad (by omega) ad rfl (fun _ _ h=>af.cells h) (fun _ _ _ _ g h=>af.kp h g) (fun _ _ _ g h=>af.kp h g) (fun i w v hi h=>by rw [qN hi];exact h) (fun w v h=>af.re (h.eq (by rw [dw (Nat.le_refl _),lC])) (by rw [lC];exact hB k hk)) rfl)
   (lB (cN ad (by omega) rfl (by omega) (by omega))
   aw))))))))))))))))))))⟩
   ·skip
    exact ⟨(B1,[.frm 57,.frm 22,.frm 0,.frm 24]),by rw [if_neg hck];rfl,⟨ad,fun _ _ h=>ah.to (sz:=2) (e:=52) (n:=l) (F:=(fun ι w v=>af w v ((aK p (1:Int) F x k) ι) K)) (G:=(fun ι w v=>af w v ((aK p (1:Int) F x (k+1)) ι) K)) h fun i w v hi h=>by rw [uF hck];exact h,aS,fun _ _ h=>h.trans (congrArg Value.bool (uG hck)),trivial⟩,(lB (cU ad ad)
   (lB (bZ (i:=k) (F:=(au .u64 x)) Tryz.underlying126 (by kernel_rfl) ad ad (by omega) rfl)
   (lB (gA (by kernel_rfl) ad rfl)
   (lB (bk (op:=.add) ad ad (lp rfl (by omega) (by omega) (by omega)) rfl)
   (lB (bI (i:=k) (sz:=2) (n:=l) (F:=(Nf (aK p (1:Int) F x k) K)) Tryz.underlying28 (by kernel_rfl) (fun _ _ h=>ah.arr h) ad (by omega) rfl rfl)
   (lB (ff (sz:=2) (F:=Nw ((aK p (1:Int) F x k) k) K) (by kernel_rfl) (by kernel_rfl) ad (fun _ _ _ g h=>af.kp h g) (fun _ _ h=>af.is h) rfl)
   (lB (d9 (P:=p) nI ad rfl (by omega) (by omega) (by omega))
   (lB (bk (op:=.sub) ad ad (eu (by rw [dw (Nat.le_refl _)]) (by rw [dw (Nat.le_refl _)];omega) (by rw [dw (Nat.le_refl _)];omega) (by omega)) rfl)
   (lB (bk (op:=.rem) ad ad (d8 rfl (by omega) (by omega)) rfl)
   (lB (bk (op:=.mul) ad ad (jc rfl (by omega) (by omega) (by omega)) rfl)
   (lB (bk (op:=.rem) ad ad (d8 rfl (by omega) (by omega)) rfl)
   (lB (cY (op:=.gtr) ad (bT (decide_eq_false (by omega)) (by simp)))
   (lB (cN ad (by omega) rfl (by omega) (by omega))
   aw)))))))))))))⟩
)
   (lB (tlF ad ad)
   aw)
   (fun q hq w v h=>by
    simp only [BW,List.mem_cons,List.not_mem_nil,or_false] at hq
    rcases hq with rfl | rfl
    ·exact (fun h=>h) h
    ·exact (fun h=>h) h)) (lB (mC (by kernel_rfl) Tryz.underlying3 ad (mF (by omega) (by omega)) rfl)
   (lB (lA ad rfl (by omega) (by omega) rfl)
   (lB (g9 nI nI rfl (by omega) rfl)
   aw))))))))))))))))
def uJ (F x F0:Nat->Int) (M0:Int) (l l0 K K0 kM p:Nat) (s0:Option Addr) (n0 m0 B:Nat) (w0:World):List WP:=[ah 2 52 (Nf F0 K0) l0,Rw 1 (au .u64 x) l,Nu ((p:Nat):Int),Nw M0 kM,yX w0 B (.slice s0 n0 m0),fun _ u=>u = .pointer (some ⟨B,0,none⟩),b9 l0,Nz l0,Nz l,Nz l0,Nz l,Nz l0,Nz l,ah 2 52 (Nf F K) l,Nw (1:Int) 2,Nu ((1:Int) % ((p:Nat):Int)),Nu (bL p ((1:Int) % ((p:Nat):Int))),Nz l,ah 2 52 (Nf (aK p (1:Int) F x l) K) l,fun _ v=>v = .bool (decide (∀j,j<l->mvn p (1:Int) (F j) (x j)=0)),Nz p,Nw ((p:Nat):Int) 2,Nw ((1:Int)*((p:Nat):Int)) (2+2)]
def Pn (F x:Nat->Int) (l K p:Nat) (k:Nat):List WP:=[Nz k,ah 2 52 (Nf (aK p (1:Int) F x k) K) l,fun _ _=>True,fun _ v=>v = .bool (decide (∀j,j<k->mvn p (1:Int) (F j) (x j)=0)),fun w v=>Ptr 1 (fun _ v=>v = .agg #[.int .u64 (x k)]) w v,Nu (x k),Nu (x k+(p:Int)),At 2,Ptr 2 (Nw ((aK p (1:Int) F x k) k) K),Nw ((aK p (1:Int) F x k) k) K,Nu (((aK p (1:Int) F x k) k) % ((p:Nat):Int)),Nu (x k+(p:Int)-F k % (p:Int)),Nu ((x k+(p:Int)-F k % (p:Int)) % (p:Int)),Nu ((x k+(p:Int)-F k % (p:Int)) % (p:Int)*bL p ((1:Int) % (p:Int))),Nu (mvn p (1:Int) (F k) (x k)),At 2,Ptr 2 (Nw ((aK p (1:Int) F x k) k) K),Nw ((aK p (1:Int) F x k) k) K,Nw (bD p (mvn p (1:Int) (F k) (x k))) 2,Nw ((1:Int)*(bD p (mvn p (1:Int) (F k) (x k)))) (2+2),Nw (((aK p (1:Int) F x k) k)+((1:Int)*(bD p (mvn p (1:Int) (F k) (x k))))) (K+(2+2)+1),At 2,Ptr 2 (Nw ((aK p (1:Int) F x k) k) K),fun w v=>ah 2 52 (fun ι w v=>af w v ((aK p (1:Int) F x (k+1)) ι) K) l w v,Nz (k+1),fun w v=>Ptr 1 (fun _ v=>v = .agg #[.int .u64 (x k)]) w v,Nu (x k),Nu (x k+(p:Int)),At 2,Ptr 2 (Nw ((aK p (1:Int) F x k) k) K),Nw ((aK p (1:Int) F x k) k) K,Nu (((aK p (1:Int) F x k) k) % ((p:Nat):Int)),Nu (x k+(p:Int)-F k % (p:Int)),Nu ((x k+(p:Int)-F k % (p:Int)) % (p:Int)),Nu ((x k+(p:Int)-F k % (p:Int)) % (p:Int)*bL p ((1:Int) % (p:Int))),Nu (mvn p (1:Int) (F k) (x k)),Nz (k+1)]
def B7:bg:=⟨[0,1,2,6,8,12,13,14,15,16,17,18,19,20,21,22,23,24,25,26,27,28,29,30,31,32,33,34,35,36,37,38,39,40,41,42,43,44,45,46,47,48,49,50,51,52],[(.slot 53,.i),(.cell 0 0,.s),(.slot 7,.b)],[(.one 0,23),(.one 1,.Ru [2] 24),(.one 1,.lo 2),(.one 2,26)],[.closed (.one (.ci .i64 0)),.frm 13,.frm 0,.closed (.one (.cb true))],23,[(24,18),(26,19)]⟩
def B8:List Step:=[bQ [.fact 23,.fact 17] oT (ak .lss),
   bQ [.fact 1,.fact 23] [oP 27] (aG 126),
   bQ [.fact 27] [oK 28] (aM 103),
   bQ [.fact 28,.fact 2] [oK 29] (aA .add),
   .base ⟨0,[.fact 24,.fact 23],[oP 31],.joint [2] 30 (aG 28)⟩,
   .base ⟨0,[.fact 31],[oI 32],.dd [2] (aM 52)⟩,
   .base ⟨115,[.fact 32,.fact 2],[oK 33],false⟩,
   bQ [.fact 29,.fact 33] [oK 34] (aA .sub),
   bQ [.fact 34,.fact 2] [oK 35] (aA .rem),
   bQ [.fact 35,.fact 16] [oK 36] (aA .mul),
   bQ [.fact 36,.fact 2] [oK 37] (aA .rem),
   bQ [.fact 37,.lit (.ci .u64 0)] oT (aA .gtr),
   .base ⟨0,[.fact 24,.fact 23],[oP 39],.joint [2] 38 (aG 28)⟩,
   .base ⟨0,[.fact 39],[oI 40],.dd [2] (aM 52)⟩,
   .base ⟨139,[.fact 37,.fact 2],[oI 41],false⟩,
   .base ⟨63,[.fact 14,.fact 41],[oI 42],false⟩,
   .base ⟨62,[.fact 40,.fact 42],[oI 43],false⟩,
   .base ⟨0,[.fact 24,.fact 23],[oP 45],.joint [2] 44 (aG 28)⟩,
   .base ⟨0,[.fact 24,.fact 23,.any,.fact 43],[oS 46],.put [] 2 0 44 (dV 52 (.tmp 82) (.tmp 83))⟩,
   bQ [.fact 23,.lit (.ci .i64 1)] [oN 47] (ak .add)]
def B9:List Step:=[bQ [.fact 23,.fact 17] oT (ak .lss),
   bQ [.fact 1,.fact 23] [oP 48] (aG 126),
   bQ [.fact 48] [oK 49] (aM 103),
   bQ [.fact 49,.fact 2] [oK 50] (aA .add),
   .base ⟨0,[.fact 24,.fact 23],[oP 52],.joint [2] 51 (aG 28)⟩,
   .base ⟨0,[.fact 52],[oI 53],.dd [2] (aM 52)⟩,
   .base ⟨115,[.fact 53,.fact 2],[oK 54],false⟩,
   bQ [.fact 50,.fact 54] [oK 55] (aA .sub),
   bQ [.fact 55,.fact 2] [oK 56] (aA .rem),
   bQ [.fact 56,.fact 16] [oK 57] (aA .mul),
   bQ [.fact 57,.fact 2] [oK 58] (aA .rem),
   bQ [.fact 58,.lit (.ci .u64 0)] oF (aA .gtr),
   bQ [.fact 23,.lit (.ci .i64 1)] [oN 59] (ak .add)]
def Po:List Step:=[bQ [.fact 23,.fact 17] oF (ak .lss)]
def Pp:List Step:=[.freed (.one (.s 0 0)) 0 6,
   bQ [.fact 6] [oN 7] (aD 28),
   bQ [.fact 7,.lit (.ci .i64 0)] oT (ak .gtr),
   bQ [.fact 1] [oN 8] (aD 126),
   bQ [.fact 6] [oN 9] (aD 28),
   bQ [.fact 8,.fact 9] oF (ak .gtr),
   bQ [.fact 1] [oN 10] (aD 126),
   bQ [.fact 6] [oN 11] (aD 28),
   bQ [.fact 10,.fact 11] oT (ak .neq),
   bQ [.fact 1] [oN 12] (aD 126),
   .base ⟨0,[.fact 12,.fact 12],[oS 13],.loose [] 2 0 (fp 28)⟩,
   .base ⟨59,[.lit (.ci .i64 1)],[oI 14],false⟩,
   .base ⟨115,[.fact 14,.fact 2],[oK 15],false⟩,
   .base ⟨136,[.fact 15,.fact 2],[oK 16],false⟩,
   bQ [.fact 1] [oN 17] (aD 126),
   .loop B7 [(B8,[.frm 47,.frm 46,.frm 0,.closed (.one (.cb false))]),(B9,[.frm 59,.frm 24,.frm 0,.frm 26])] Po,
   bQ [.fact 2] [oN 20] (gz 103 3),
   .base ⟨59,[.fact 20],[oI 21],false⟩,
   .base ⟨63,[.fact 14,.fact 21],[oI 22],false⟩]
def Ca:Out:=⟨.agg [.s,.b,.s],[(0,1,0)]⟩
def Cc:List Out:=[oS 1,oK 2]
theorem Pq {F x F0:Nat->Int}{M0:Int}{l l0 K K0 kM p:Nat}{s0:Option Addr}{n0 m0 B:Nat}{w0:World} (hl:l<=1000000) (hp0:1<p) (eJ:p<2147483648) (hK:K<=90000) (_hkM:kM<=90000) (hx:∀j,0<=x j∧x j<p) (hF:∀j,F j=F j) (hB:∀k,k<l->Bd (F k+(1:Int)*bD p (mvn p (1:Int) (F k) (x k))).natAbs K) (hl0:0<l) (_hne:l≠l0) (_hlt:l0=0∨l<l0) (Pr:l0<=1000000) (hF0:F=fun _=>0) (_hK0:K0<=90000) (h0p:l<l0):mG (ph (uJ F x F0 M0 l l0 K K0 kM p s0 n0 m0 B w0)) Tryz.prog 118 Ca [(1,2,3)] Cc 3 ⟨.one (.b),[(0,0,19)]⟩ ⟨.agg [.s,.b,.s],[(0,1,18),(1,2,22)]⟩ (.slice s0 n0 m0) B w0:=by
 skip
 exact qO Ca [(1,2,3)] Cc 3 ⟨.one (.b),[(0,0,19)]⟩ ⟨.agg [.s,.b,.s],[(0,1,18),(1,2,22)]⟩ 4 5 4 Pp rfl rfl rfl Tryz.func118 (by kernel_rfl)
  (cV (cW (e:=52) (sz:=2) (n:=l0) (F:=(Nf F0 K0)) ad rfl)
   (lB (ce (n:=l0) Tryz.underlying28 ad rfl)
   (lB (d3 ad)
   (lB (aP (F:=(au .u64 x)) Tryz.underlying126 ad rfl)
   (lB (ce (n:=l0) Tryz.underlying28 ad rfl)
   (lB (BV ad ad)
   (lB (aP (F:=(au .u64 x)) Tryz.underlying126 ad rfl)
   (lB (ce (n:=l0) Tryz.underlying28 ad rfl)
   (lB (jh (op:=.neq) ad ad (bN (decide_eq_true (by omega)) (by simp)))
   (lB (aP (F:=(au .u64 x)) Tryz.underlying126 ad rfl)
   (lB (gZ (n:=l) (F:=(fun ι w v=>af w v (F ι) K)) ad (by omega) (fun k w=>by rw [hF0];exact af.zero w K) rfl)
   (lB (B6 (z:=1) rfl (by decide) (by decide) rfl)
   (lB (d9 (P:=p) nI ad rfl (by omega) (by omega) (by omega))
   (lB (n9 (P:=p) (a:=((1:Int) % ((p:Nat):Int))) ad ad rfl (Int.emod_nonneg _ (by omega)) (by have:=Int.emod_lt_of_pos (1:Int) (b:=(p:Int)) (by omega);omega) (by omega) (by omega))
   (lB (aP (F:=(au .u64 x)) Tryz.underlying126 ad rfl)
   (bz (counted l (fun k=>ph (uJ F x F0 M0 l l0 K K0 kM p s0 n0 m0 B w0 ++ Pn F x l K p k)) (fun k=>if mvn p (1:Int) (F k) (x k)≠0 then 0 else 1) (fun k p hp=>bB (show p<(uJ F x F0 M0 l l0 K K0 kM p s0 n0 m0 B w0).length from hp)) ⟨fun _=>rfl,fun _ _ h=>ah.to (sz:=2) (e:=52) (n:=l) (F:=(fun ι w v=>af w v (F ι) K)) (G:=(fun ι w v=>af w v ((aK p (1:Int) F x 0) ι) K)) h fun i w v hi h=>by rw [dw (Nat.zero_le _)];exact h,aS,fun _=>congrArg Value.bool (decide_eq_true fun j hj=>absurd hj (Nat.not_lt_zero j)).symm,trivial⟩ (fun k hk=>by
   have h1:=hx k;have h2:=hF k;have h3:=Int.emod_nonneg (F k) (b:=(p:Int)) (by omega);have h4:=Int.emod_lt_of_pos (F k) (b:=(p:Int)) (by omega);have h5:=Int.emod_nonneg (x k+(p:Int)-F k % (p:Int)) (b:=(p:Int)) (by omega);have h6:=Int.emod_lt_of_pos (x k+(p:Int)-F k % (p:Int)) (b:=(p:Int)) (by omega);have h7:=og (p:=p) (x:=(1:Int) % (p:Int)) hp0;have h8:=n5 ⟨h5,(by omega:(x k+(p:Int)-F k % (p:Int)) % (p:Int)<2147483648)⟩ ⟨h7.1,(by omega:bL p ((1:Int) % (p:Int))<2147483648)⟩;have h9:=nJ (p:=p) (by omega) (1:Int) (F k) (x k)
   by_cases hck:mvn p (1:Int) (F k) (x k)≠0
   ·skip
    exact ⟨(B8,[.frm 47,.frm 46,.frm 0,.closed (.one (.cb false))]),by rw [if_pos hck];rfl,⟨ad,ad,aS,fun _=>congrArg Value.bool (decide_eq_false fun h=>hck (h k (Nat.lt_succ_self k))).symm,trivial⟩,(lB (cU ad ad)
   (lB (bZ (i:=k) (F:=(au .u64 x)) Tryz.underlying126 (by kernel_rfl) ad ad (by omega) rfl)
   (lB (gA (by kernel_rfl) ad rfl)
   (lB (bk (op:=.add) ad ad (lp rfl (by omega) (by omega) (by omega)) rfl)
   (lB (bI (i:=k) (sz:=2) (n:=l) (F:=(Nf (aK p (1:Int) F x k) K)) Tryz.underlying28 (by kernel_rfl) (fun _ _ h=>ah.arr h) ad (by omega) rfl rfl)
   (lB (ff (sz:=2) (F:=Nw ((aK p (1:Int) F x k) k) K) (by kernel_rfl) (by kernel_rfl) ad (fun _ _ _ g h=>af.kp h g) (fun _ _ h=>af.is h) rfl)
   (lB (d9 (P:=p) nI ad rfl (by omega) (by omega) (by omega))
   (lB (bk (op:=.sub) ad ad (eu (by rw [dw (Nat.le_refl _)]) (by rw [dw (Nat.le_refl _)];omega) (by rw [dw (Nat.le_refl _)];omega) (by omega)) rfl)
   (lB (bk (op:=.rem) ad ad (d8 rfl (by omega) (by omega)) rfl)
   (lB (bk (op:=.mul) ad ad (jc rfl (by omega) (by omega) (by omega)) rfl)
   (lB (bk (op:=.rem) ad ad (d8 rfl (by omega) (by omega)) rfl)
   (lB (ugT ad)
   (lB (bI (i:=k) (sz:=2) (n:=l) (F:=(Nf (aK p (1:Int) F x k) K)) Tryz.underlying28 (by kernel_rfl) (fun _ _ h=>ah.arr h) ad (by omega) rfl rfl)
   (lB (ff (sz:=2) (F:=Nw ((aK p (1:Int) F x k) k) K) (by kernel_rfl) (by kernel_rfl) ad (fun _ _ _ g h=>af.kp h g) (fun _ _ h=>af.is h) rfl)
   (lB (uC (P:=p) ad ad rfl h9.1 h9.2 (by omega) (by omega))
   (lB (g9 nI nI rfl (by omega) rfl)
   (lB (qP nI nI rfl (by omega) rfl)
   (lB (bI (i:=k) (sz:=2) (n:=l) (F:=(Nf (aK p (1:Int) F x k) K)) Tryz.underlying28 (by kernel_rfl) (fun _ _ h=>ah.arr h) ad (by omega) rfl rfl)
   (lB (fo (i:=k) (n:=l) (F:=(fun ι w v=>af w v ((aK p (1:Int) F x k) ι) K)) (F':=(fun ι w v=>af w v ((aK p (1:Int) F x (k+1)) ι) K)) (G:=Nw (((aK p (1:Int) F x k) k)+((1:Int)*(bD p (mvn p (1:Int) (F k) (x k))))) (K+(2+2)+1)) (.tmp 82) (.tmp 83) (by kernel_rfl) ad ad (by omega) ad rfl (fun _ _ h=>af.cells h) (fun _ _ _ _ g h=>af.kp h g) (fun _ _ _ g h=>af.kp h g) (fun i w v hi h=>by rw [qN hi];exact h) (fun w v h=>af.re (h.eq (by rw [dw (Nat.le_refl _),lC])) (by rw [lC];exact hB k hk)) rfl)
   (lB (cN ad (by omega) rfl (by omega) (by omega))
   aw))))))))))))))))))))⟩
   ·skip
    exact ⟨(B9,[.frm 59,.frm 24,.frm 0,.frm 26]),by rw [if_neg hck];rfl,⟨ad,fun _ _ h=>ah.to (sz:=2) (e:=52) (n:=l) (F:=(fun ι w v=>af w v ((aK p (1:Int) F x k) ι) K)) (G:=(fun ι w v=>af w v ((aK p (1:Int) F x (k+1)) ι) K)) h fun i w v hi h=>by rw [uF hck];exact h,aS,fun _ _ h=>h.trans (congrArg Value.bool (uG hck)),trivial⟩,(lB (cU ad ad)
   (lB (bZ (i:=k) (F:=(au .u64 x)) Tryz.underlying126 (by kernel_rfl) ad ad (by omega) rfl)
   (lB (gA (by kernel_rfl) ad rfl)
   (lB (bk (op:=.add) ad ad (lp rfl (by omega) (by omega) (by omega)) rfl)
   (lB (bI (i:=k) (sz:=2) (n:=l) (F:=(Nf (aK p (1:Int) F x k) K)) Tryz.underlying28 (by kernel_rfl) (fun _ _ h=>ah.arr h) ad (by omega) rfl rfl)
   (lB (ff (sz:=2) (F:=Nw ((aK p (1:Int) F x k) k) K) (by kernel_rfl) (by kernel_rfl) ad (fun _ _ _ g h=>af.kp h g) (fun _ _ h=>af.is h) rfl)
   (lB (d9 (P:=p) nI ad rfl (by omega) (by omega) (by omega))
   (lB (bk (op:=.sub) ad ad (eu (by rw [dw (Nat.le_refl _)]) (by rw [dw (Nat.le_refl _)];omega) (by rw [dw (Nat.le_refl _)];omega) (by omega)) rfl)
   (lB (bk (op:=.rem) ad ad (d8 rfl (by omega) (by omega)) rfl)
   (lB (bk (op:=.mul) ad ad (jc rfl (by omega) (by omega) (by omega)) rfl)
   (lB (bk (op:=.rem) ad ad (d8 rfl (by omega) (by omega)) rfl)
   (lB (cY (op:=.gtr) ad (bT (decide_eq_false (by omega)) (by simp)))
   (lB (cN ad (by omega) rfl (by omega) (by omega))
   aw)))))))))))))⟩
)
   (lB (tlF ad ad)
   aw)
   (fun q hq w v h=>by
    simp only [B7,List.mem_cons,List.not_mem_nil,or_false] at hq
    rcases hq with rfl | rfl
    ·exact (fun h=>h) h
    ·exact (fun h=>h) h)) (lB (mC (by kernel_rfl) Tryz.underlying3 ad (mF (by omega) (by omega)) rfl)
   (lB (lA ad rfl (by omega) (by omega) rfl)
   (lB (g9 nI nI rfl (by omega) rfl)
   aw)))))))))))))))))))
def Ps (x F0:Nat->Int) (M0:Int) (l l0 K0 kM p:Nat) (s0:Option Addr) (n0 m0 B:Nat) (w0:World):List WP:=[ah 2 52 (Nf F0 K0) l0,Rw 1 (au .u64 x) l,Nu ((p:Nat):Int),Nw M0 kM,yX w0 B (.slice s0 n0 m0),fun _ u=>u = .pointer (some ⟨B,0,none⟩),b9 l0,Nz l0,Nz l,Nz l0]
def Pt:List Step:=[.freed (.one (.s 0 0)) 0 6,
   bQ [.fact 6] [oN 7] (aD 28),
   bQ [.fact 7,.lit (.ci .i64 0)] oT (ak .gtr),
   bQ [.fact 1] [oN 8] (aD 126),
   bQ [.fact 6] [oN 9] (aD 28),
   bQ [.fact 8,.fact 9] oT (ak .gtr)]
def Cd:Out:=⟨.agg [.s,.b,.s],[(0,1,0)]⟩
def Ce:List Out:=[oS 1,oK 2]
theorem Pu {x F0:Nat->Int}{M0:Int}{l l0 K0 kM p:Nat}{s0:Option Addr}{n0 m0 B:Nat}{w0:World} (h0:0<l0) (h1:l0<l):mG (ph (Ps x F0 M0 l l0 K0 kM p s0 n0 m0 B w0)) Tryz.prog 118 Cd [(1,2,3)] Ce 3 (oL (.cb false)) ⟨.agg [.s,.b,.s],[(0,1,0),(1,2,3)]⟩ (.slice s0 n0 m0) B w0:=by
 skip
 exact qO Cd [(1,2,3)] Ce 3 (oL (.cb false)) ⟨.agg [.s,.b,.s],[(0,1,0),(1,2,3)]⟩ 4 5 4 Pt rfl rfl rfl Tryz.func118 (by kernel_rfl)
  (cV (cW (e:=52) (sz:=2) (n:=l0) (F:=(Nf F0 K0)) ad rfl)
   (lB (ce (n:=l0) Tryz.underlying28 ad rfl)
   (lB (d3 ad)
   (lB (aP (F:=(au .u64 x)) Tryz.underlying126 ad rfl)
   (lB (ce (n:=l0) Tryz.underlying28 ad rfl)
   (lB (Pw ad ad)
   aw))))))
theorem Cf {Φ:PH}{p q r s x1 x2 n0 n1 l K K1 kM kM1 P:Nat}{F0 G x:Nat->Int}{M0 M1:Int}{rb:Bool}
  (hp:∀w v,Φ p w v->ah 2 52 (Nf F0 K) n0 w v) (hq:∀w v,Φ q w v->af w v M0 kM) (hr:∀w v,Φ r w v->Rw 1 (au .u64 x) l w v) (hs:∀w v,Φ s w v->v = .int .u64 ((P:Nat):Int))
  (hx1:Φ x1=ah 2 52 (Nf G K1) n1) (hx2:Φ x2=Nw M1 kM1)
  (H:∀(s0:Option Addr) (m0 B:Nat) (w:World),∃Ψ:PH,∃i0 fL ins res cont,mG Ψ Tryz.prog 118 i0 fL ins 3 res cont (.slice s0 n0 m0) B w ∧
   (∀l':List Value,(bm.agg [.s,.b,.s]).is (.agg l'.toArray)->(∀w1,Off (fun k=>k=B) w w1->ah 2 52 (Nf F0 K) n0 w1 (bi 0 1 (.agg l'.toArray)))->bh Ψ (fun k=>k=B) w [i0] [.agg l'.toArray]) ∧
   (∀l':List Value,(∀w1,Kp w w1->af w1 (bi 1 2 (.agg l'.toArray)) M0 kM)->∀q,q ∈ fL->∀w1,Off (fun k=>k=B∨blk (.slice s0 n0 m0)=some k) w w1->Ψ q.2.2 w1 (bi q.1 q.2.1 (.agg l'.toArray))) ∧
   (∀u1,(∀w1,Off (fun k=>k=B∨blk (.slice s0 n0 m0)=some k) w w1->Rw 1 (au .u64 x) l w1 u1)->bh Ψ (fun k=>k=B∨blk (.slice s0 n0 m0)=some k) w ins [u1,.int .u64 ((P:Nat):Int)]) ∧
   ∀w' u (l':List Value),bh Ψ (fun _=>False) w' [res,cont] [u,.agg l'.toArray]->u = .bool rb∧(bm.agg [.s,.b,.s]).is (.agg l'.toArray)∧ah 2 52 (Nf G K1) n1 w' (bi 0 1 (.agg l'.toArray))∧af w' (bi 1 2 (.agg l'.toArray)) M1 kM1) :
  ai Φ Tryz.prog ⟨118,[.parts (.agg [.s,.b,.s]) [(0,1,p),(1,2,q)],.fact r,.fact s],[oL (.cb rb),⟨.agg [.s,.b,.s],[(0,1,x1),(1,2,x2)]⟩],.fj [3,1,2] 3 3 [[3],[1,2],[]]⟩:=fun X L W0 w B l0 vs hgr hX hL hLX hone hB hXB hLB hlen hcl hag hhd=>by
 match vs,hag with
 | [u1,u2],hag=>
  obtain ⟨⟨⟨hsh,hv⟩,-⟩,⟨h1,-⟩,⟨h2,-⟩,-⟩:=hag
  have hu2:u2 = .int .u64 ((P:Nat):Int):=hs _ _ (h2 w (Off.refl _ _))
  subst hu2
  obtain ⟨ws,hws,hall⟩:=hsh
  have Px:l0.toArray=ws.toArray:=by injection hws
  have:l0=ws:=by simpa using congrArg Array.toList Px
  subst this
  match l0,hall with
  | [c0,c1,c2],hall=>
   obtain ⟨⟨s0,uK,m0,rfl⟩,⟨bb,rfl⟩,⟨s2,n2,m2,rfl⟩,_⟩:=hall
   have hA:∀w1,Off (fun k=>X k∨∃j,j ∈ [3,1,2]∧j ∉ [3]∧L j k) w w1->ah 2 52 (Nf F0 K) n0 w1 (.slice s0 uK m0):=fun w1 hw=>hp _ _ (hv (0,1,p) (by simp) w1 hw)
   obtain ⟨sx,cx,hsx,_⟩:=(hA w (Off.refl _ _)).rw
   simp only [Value.slice.injEq] at hsx
   obtain ⟨rfl,rfl,rfl⟩:=hsx
   have hM:af w (.agg #[.bool bb,.slice s2 n2 m2]) M0 kM:=hq _ _ (hv (1,2,q) (by simp) w (Off.refl _ _))
   have ol:∀b,blk (.slice s0 uK m0)=some b->L 3 b:=hhd
   have hBs:B<w.heap.size:=hX B hXB
   obtain ⟨Ψ,i0,fL,ins,res,cont,hH,c1,c2,c3,c4⟩:=H s0 m0 B w
   refine (hH W0 [.slice s0 uK m0,.bool bb,.slice s2 n2 m2] [u1,.int .u64 ((P:Nat):Int)] rfl rfl hgr hB hBs (fun e=>hLB 3 (ol B e)) hcl (c1 _ ⟨_,rfl,⟨_,_,_,rfl⟩,⟨_,rfl⟩,⟨_,_,_,rfl⟩,trivial⟩ fun w1 hw=>hA w1 (hw.wide fun k hk=>.inl (hk▸hXB))) (c2 _ fun w1 hk=>hM.kp hk) (c3 u1 fun w1 hw=>hr _ _ (h1 w1 (hw.wide fun k hk=>?_))) (fun g hg=>hL 3 g (ol g hg))).mono fun e w' ⟨u,l',he,hwr,hl',hcl',ho,hb⟩=>?_
   ·rcases hk with rfl | hk
    ·exact .inl hXB
    ·exact .inr ⟨3,List.mem_cons_self ..,by decide,ol k hk⟩
   ·obtain ⟨hu,hsh',hrow,hmod⟩:=c4 w' u l' ho
    have hhead:bi 0 1 (.agg l'.toArray)=l'.headD undef:=by
     cases l' <;> rfl
    have Py:Wr w w' (fun k=>k=B∨L 3 k):=⟨hwr.1,hwr.2.1,fun k hk hn=>hwr.2.2 k hk fun h=>hn (h.elim .inl fun h=>.inr (ol k h))⟩
    have hb':∀b,blk (l'.headD undef)=some b->L 3 b∨w.heap.size<=b∧b<w'.heap.size:=fun b h=>(hb b h).elim (fun h=>.inl (ol b h)) .inr
    refine ⟨u,l',he,Py,hl',hcl',⟨⟨⟨hu,fun _ h=>by rw [hu] at h;cases h⟩,fun _ h=>by cases h⟩,⟨hsh',fun r hr w1 hw=>?_⟩,trivial⟩,hb'⟩
    simp only [List.mem_cons,List.not_mem_nil,or_false] at hr
    rcases hr with rfl | rfl
    ·show Φ x1 w1 _
     rw [hx1]
     refine ah.off (F:=Nf G K1) (fun _ _ _ _ g h=>af.kp h g) hrow hw fun g hg h=>?_
     rw [hhead] at hg
     rcases hb' g hg with h3 | ⟨h3,-⟩
     ·rcases h with h | ⟨i,_,h5,h6⟩
      ·exact hLX 3 g (List.mem_cons_self ..) h3 h
      ·exact h5 (hone i 3 g h6 h3)
     ·rcases h with h | ⟨i,_,h5,h6⟩
      ·have:=hX g h;omega
      ·have:=(hL i g h6).2;omega
    ·show Φ x2 w1 _
     rw [hx2]
     exact hmod.kp hw.1
section
variable {Φ:PH}{p q r s x1 x2 n0 l K K1 kM kM1 P:Nat}{F0 F x:Nat->Int}{M0 M:Int}{rb:Bool}
theorem Pz (hp:∀w v,Φ p w v->ah 2 52 (Nf F0 K) n0 w v) (hq:∀w v,Φ q w v->af w v M0 kM) (hr:∀w v,Φ r w v->Rw 1 (au .u64 x) l w v) (hs:∀w v,Φ s w v->v = .int .u64 ((P:Nat):Int))
  (hx1:Φ x1=ah 2 52 (Nf F0 K) n0) (hx2:Φ x2=Nw M0 kM) (h0:0<n0) (h1:n0<l) :
  ai Φ Tryz.prog ⟨118,[.parts (.agg [.s,.b,.s]) [(0,1,p),(1,2,q)],.fact r,.fact s],[oL (.cb false),⟨.agg [.s,.b,.s],[(0,1,x1),(1,2,x2)]⟩],.fj [3,1,2] 3 3 [[3],[1,2],[]]⟩:=
 Cf hp hq hr hs hx1 hx2 fun s0 m0 B w=>⟨_,_,_,_,_,_,Pu (x:=x) (F0:=F0) (M0:=M0) (l:=l) (l0:=n0) (K0:=K) (kM:=kM) (p:=P) (s0:=s0) (n0:=n0) (m0:=m0) (B:=B) (w0:=w) h0 h1,(fun l' hsh ho=>⟨⟨hsh,fun q hq w1 hw=>by rw [List.mem_singleton.1 hq];exact ho w1 hw⟩,trivial⟩),(fun l' hk q hq w1 hw=>by rw [List.mem_singleton.1 hq];exact hk w1 hw.1),(fun u1 ho=>⟨⟨Rw.is (ho w (Off.refl _ _)),fun q hq w1 hw=>by rw [List.mem_singleton.1 hq];exact ho w1 hw⟩,⟨cA _ _,fun q hq w1 hw=>by rw [List.mem_singleton.1 hq];rfl⟩,trivial⟩),
  fun w' u l' ⟨⟨⟨hu,_⟩,_⟩,⟨hsh,hf⟩,_⟩=>⟨hu,hsh,hf _ (List.mem_cons_self ..) w' (Off.refl _ _),hf _ (List.mem_cons_of_mem _ (List.mem_cons_self ..)) w' (Off.refl _ _)⟩⟩
theorem PA (hp:∀w v,Φ p w v->ah 2 52 (Nf F0 K) n0 w v) (hq:∀w v,Φ q w v->af w v M0 kM) (hr:∀w v,Φ r w v->Rw 1 (au .u64 x) l w v) (hs:∀w v,Φ s w v->v = .int .u64 ((P:Nat):Int))
  (hx1:Φ x1=ah 2 52 (Nf (aK P M F x l) K) l) (hx2:Φ x2=Nw (M*P) (kM+2)) (hl:l<=1000000) (hl0:0<l) (hn0:n0<=1000000) (hP:1<P) (dN:P<2147483648) (hK:K<=90000) (hkM:kM<=90000) (Xz:2<=kM) (hx:∀j,0<=x j∧x j<P)
  (hB:∀k,k<l->Bd (F k+M*bD P (mvn P M (F k) (x k))).natAbs K) (hm:(l=n0∧F=F0∧M=M0)∨(l≠n0∧(n0=0∨l<n0)∧(F=fun _=>0)∧M=1)) (hrb:rb=decide (∀j,j<l->mvn P M (F j) (x j)=0)) :
  ai Φ Tryz.prog ⟨118,[.parts (.agg [.s,.b,.s]) [(0,1,p),(1,2,q)],.fact r,.fact s],[oL (.cb rb),⟨.agg [.s,.b,.s],[(0,1,x1),(1,2,x2)]⟩],.fj [3,1,2] 3 3 [[3],[1,2],[]]⟩:=by
 refine Cf hp hq hr hs hx1 hx2 fun s0 m0 B w=>?_
 rcases hm with ⟨rfl,rfl,rfl⟩ | ⟨hne,hlt,hF,rfl⟩
 ·exact ⟨_,_,_,_,_,_,Pg (F:=F) (x:=x) (M:=M) (l:=l) (K:=K) (kM:=kM) (p:=P) (s0:=s0) (n0:=l) (m0:=m0) (B:=B) (w0:=w) hl hP dN hK hkM hx (fun _=>rfl) hB hl0,(fun l' hsh ho=>⟨⟨hsh,fun q hq w1 hw=>by rw [List.mem_singleton.1 hq];exact ho w1 hw⟩,trivial⟩),(fun l' hk q hq w1 hw=>by rw [List.mem_singleton.1 hq];exact hk w1 hw.1),(fun u1 ho=>⟨⟨Rw.is (ho w (Off.refl _ _)),fun q hq w1 hw=>by rw [List.mem_singleton.1 hq];exact ho w1 hw⟩,⟨cA _ _,fun q hq w1 hw=>by rw [List.mem_singleton.1 hq];rfl⟩,trivial⟩),
   fun w' u l' ⟨⟨_,hu⟩,⟨hsh,hf⟩,_⟩=>⟨by rw [hrb];exact hu _ (List.mem_cons_self ..) w' (Off.refl _ _),hsh,hf _ (List.mem_cons_self ..) w' (Off.refl _ _),hf _ (List.mem_cons_of_mem _ (List.mem_cons_self ..)) w' (Off.refl _ _)⟩⟩
 ·rcases Nat.eq_zero_or_pos n0 with h0 | h0
  ·exact ⟨_,_,_,_,_,_,Pk (F:=F) (x:=x) (F0:=F0) (M0:=M0) (l:=l) (l0:=n0) (K:=K) (K0:=K) (kM:=kM) (p:=P) (s0:=s0) (n0:=n0) (m0:=m0) (B:=B) (w0:=w) hl hP dN hK hkM hx (fun _=>rfl) hB hl0 hne (by omega) hn0 hF hK h0,(fun l' hsh ho=>⟨⟨hsh,fun q hq w1 hw=>by rw [List.mem_singleton.1 hq];exact ho w1 hw⟩,trivial⟩),(fun l' hk q hq w1 hw=>by rw [List.mem_singleton.1 hq];exact hk w1 hw.1),(fun u1 ho=>⟨⟨Rw.is (ho w (Off.refl _ _)),fun q hq w1 hw=>by rw [List.mem_singleton.1 hq];exact ho w1 hw⟩,⟨cA _ _,fun q hq w1 hw=>by rw [List.mem_singleton.1 hq];rfl⟩,trivial⟩),
    fun w' u l' ⟨⟨_,hu⟩,⟨hsh,hf⟩,_⟩=>⟨by rw [hrb];exact hu _ (List.mem_cons_self ..) w' (Off.refl _ _),hsh,hf _ (List.mem_cons_self ..) w' (Off.refl _ _),af.more (hf _ (List.mem_cons_of_mem _ (List.mem_cons_self ..)) w' (Off.refl _ _)) (by omega)⟩⟩
  ·exact ⟨_,_,_,_,_,_,Pq (F:=F) (x:=x) (F0:=F0) (M0:=M0) (l:=l) (l0:=n0) (K:=K) (K0:=K) (kM:=kM) (p:=P) (s0:=s0) (n0:=n0) (m0:=m0) (B:=B) (w0:=w) hl hP dN hK hkM hx (fun _=>rfl) hB hl0 hne (by omega) hn0 hF hK (by omega),(fun l' hsh ho=>⟨⟨hsh,fun q hq w1 hw=>by rw [List.mem_singleton.1 hq];exact ho w1 hw⟩,trivial⟩),(fun l' hk q hq w1 hw=>by rw [List.mem_singleton.1 hq];exact hk w1 hw.1),(fun u1 ho=>⟨⟨Rw.is (ho w (Off.refl _ _)),fun q hq w1 hw=>by rw [List.mem_singleton.1 hq];exact ho w1 hw⟩,⟨cA _ _,fun q hq w1 hw=>by rw [List.mem_singleton.1 hq];rfl⟩,trivial⟩),
    fun w' u l' ⟨⟨_,hu⟩,⟨hsh,hf⟩,_⟩=>⟨by rw [hrb];exact hu _ (List.mem_cons_self ..) w' (Off.refl _ _),hsh,hf _ (List.mem_cons_self ..) w' (Off.refl _ _),af.more (hf _ (List.mem_cons_of_mem _ (List.mem_cons_self ..)) w' (Off.refl _ _)) (by omega)⟩⟩
end
end Go.Proofs.YtbokonbbokhjlaaGreat.Sym
