/- Layer 5's example. poly.value, Sign, Ends. -/
import Derived.Test.YthmcngjhkmpneaaGreatPolX
import Derived.Test.YthmcngjhkmpneaaGreatPolW
import Derived.Test.YthmcngjhkmpneaaGreatRatL
namespace Go.Proofs.YthmcngjhkmpneaaGreat
open Go.RowKit
open Go.RowKit Go.Proofs.YthmcngjhkmpneaaGreat.Sym
theorem Rw.grow {sz n:Nat}{F:PH}{w w':World}{v:Value} (hF:∀i w w1 v,Kp w w1->F i w v->F i w1 v) (h:Rw sz F n w v) (g:w.grownBy w' none):Rw sz F n w' v:=by
 obtain ⟨p,c,rfl,hc,h1⟩:=h
 refine ⟨p,c,rfl,hc,fun i hi=>?_⟩
 obtain ⟨b,off,rfl,l,h2,h3,h4⟩:=h1 i hi
 exact ⟨b,off,rfl,l,h2,fun j u hj=>cell_grown g (h3 j u hj),hF _ _ _ _ (Kp.of g) h4⟩
theorem Rw.l8 {sz n:Nat}{F:PH}{w w1:World}{v:Value} (hF:∀i w w1 v,Kp w w1->F i w v->F i w1 v) (h:Rw sz F n w v) (ho:Off (fun _=>False) w w1):Rw sz F n w1 v:=by
 have:=Rw.arg (Φ:=fun _=>Rw sz F n) (p:=0) (X:=fun _=>False) hF h rfl (fun _ h=>h.elim)
 exact this w1 ho
theorem three (a b c:Int) (w:World):Rw 1 (fun i _ v=>v = .agg #[.int .i64 (an [a,b,c] i)]) 3 (w.alloc (.cells #[.int .i64 a,.int .i64 b,.int .i64 c] 3)) (.slice (some ⟨w.heap.size,0,none⟩) 3 3):=by
 refine ⟨_,_,rfl,Nat.le_refl _,fun i hi=>⟨_,_,rfl,[.int .i64 (an [a,b,c] i)],rfl,fun j u hj=>?_,rfl⟩⟩
 cases j with
 | succ j=>simp at hj
 | zero=>
  simp only [List.getElem?_cons_zero,Option.some.injEq] at hj
  subst hj
  rw [World.cell?_alloc_new]
  have:i=0∨i=1∨i=2:=by omega
  rcases this with rfl | rfl | rfl <;> simp [an]
end Go.Proofs.YthmcngjhkmpneaaGreat
namespace Go.Proofs.YthmcngjhkmpneaaGreat.Sym
open Go.RowKit
section
variable {P:Program}{Φ:PH}{p q x y:Nat}
end
theorem RW (z:Nat->Int) (n:Nat):tl z (tl z n)=tl z n:=by
 cases h:tl z n with
 | zero=>rfl
 | succ k=>
  have:=gy z n (by omega)
  rw [h] at this
  unfold tl
  rw [if_neg (by simpa using this)]
def hN (z:Nat->Int) (m:Nat) (u d:Int):Nat->Int
 | 0=>if m=0 then 0 else z (m-1)
 | j+1=>hN z m u d j*u+z (m-2-j)*d ^ (j+1)
theorem RX (u d:Int){z:Nat->Int}{n:Nat}:tR z (tl z n)=hN z (tl z n) u d 0:=by
 unfold tR hN
 rw [RW]
section
variable {Φ:PH}{p q x x1 x2 n n0 K m k i N:Nat}{z:Nat->Int}
theorem RY {t:Rat} (hp:∀w v,Φ p w v->bS w v t K) (hx:Φ x=fun w v=>bk w v t (K+2)) (hx1:Φ x1=Nw t.num (K+2)) (hx2:Φ x2=Nw (t.den:Int) (K+2)) (hK:K<=40000):ai Φ Tryz.prog ⟨172,[.fact p,.lit .nl],[⟨qS,[(0,0,x),(0,2,x1),(2,2,x2)]⟩],false⟩:=fun X w vs hX ha=>by
 match vs,ha with
 | [v,u],ha=>
  obtain ⟨z,y,hq,rfl⟩:=bS.qv (hp _ _ (ha.1 w (Off.refl _ _)))
  obtain rfl:u = .slice none 0 0:=ha.2.1
  refine (RZ (Φ:=ph [fun w v=>QV w v z y K,fun w v=>Arr 4 (fun i w v=>QV w v ((fun _=>0) i) ((fun _=>0) i) K) 0 w v,fun w v=>bk w v (aD z y) (K+2),Nw (aD z y).num (K+2),Nw ((aD z y).den:Int) (K+2)]) (p:=0) (q:=1) (x:=2) (x1:=3) (x2:=4) (z:=z) (y:=y) (ez:=fun _=>0) (ey:=fun _=>0) (n:=0) (K:=K) ad ad rfl rfl rfl (by omega) hK rfl X w [v,.slice none 0 0] hX ⟨fun w1 hw=>hq.kp hw.1,fun w1 hw=>⟨none,0,rfl,fun i hi=>by omega⟩,trivial⟩).mono fun e w' ⟨hg,us,he,ho⟩=>⟨hg,us,he,?_⟩
  refine iD.ok (l:=[⟨qS,[(0,0,2),(0,2,3),(2,2,4)]⟩]) ⟨⟨rfl,⟨rfl,rfl,fun _ _ h=>hx▸h⟩,⟨rfl,rfl,fun _ _ h=>hx1▸h⟩,⟨rfl,rfl,fun _ _ h=>hx2▸h⟩,trivial⟩,trivial⟩ ho
end
def Cw (z:Nat->Int) (n k:Nat) (q:Rat) (kt kn:Nat):List WP:=[Rw 2 (If z k) n,fun w v=>bS w v q kt,Rw 2 (If z k) (tl z n),fun w v=>bk w v q (kt+2),Nw q.num (kt+2),Nw (q.den:Int) (kt+2),Nw (hN z (tl z n) q.num q.den 0) k,Nw (1:Int) 2,Ni ((((tl z n):Nat):Int)-1),Ni (((((tl z n):Nat):Int)-1)-1),Nw (hN z (tl z n) q.num q.den ((tl z n)-1)) kn,Nw (((q.den:Nat):Int) ^ ((tl z n)-1)) kn]
def R3 (z:Nat->Int) (n k:Nat) (q:Rat) (kt kn:Nat) (j:Nat):List WP:=[Ni ((((tl z n):Nat):Int)-2-((j:Nat):Int)),Nw (hN z (tl z n) q.num q.den j) kn,Nw (((q.den:Nat):Int) ^ j) kn,Nw ((((q.den:Nat):Int) ^ j)*(q.den:Int)) (kn+(kt+2)),Nw ((hN z (tl z n) q.num q.den j)*q.num) (kn+(kt+2)),Ptr 2 (Iw (z ((tl z n)-2-j)) k),Iw (z ((tl z n)-2-j)) k,Nw ((z ((tl z n)-2-j))*((((q.den:Nat):Int) ^ j)*(q.den:Int))) (k+(kn+(kt+2))),Nw (((hN z (tl z n) q.num q.den j)*q.num)+((z ((tl z n)-2-j))*((((q.den:Nat):Int) ^ j)*(q.den:Int)))) ((kn+(kt+2))+(k+(kn+(kt+2)))+1),Ni (((((tl z n):Nat):Int)-2-((j:Nat):Int))-1)]
def NQ:bj:=⟨[0,1,3,4,5,7,8,9,10,11,12,13,14,15,16],[(.slot 6,.i),(.cell 2 0,.b),(.cell 2 1,.s),(.cell 3 0,.b),(.cell 3 1,.s)],[(.one 0,12),(.agg [1,2],13),(.agg [3,4],14)],[.frm 9,.frm 6,.frm 7],12,[(13,10),(14,11)]⟩
def NR:List Step:=[bQ [.fact 12,.lit (.ci .i64 0)] oT (au .geq),
   .base ⟨44,[.fact 14,.fact 5],[oI 15],false⟩,
   .base ⟨44,[.fact 13,.fact 4],[oI 16],false⟩,
   bQ [.fact 2,.fact 12] [oP 17] (aO 28),
   bQ [.fact 17] [oI 18] (aS 51),
   .base ⟨44,[.fact 18,.fact 15],[oI 19],false⟩,
   .base ⟨67,[.fact 16,.fact 19],[oI 20],false⟩,
   bQ [.fact 12,.lit (.ci .i64 1)] [oN 21] (au .sub)]
def R4:List Step:=[bQ [.fact 12,.lit (.ci .i64 0)] oF (au .geq)]
def R7:List Step:=[.base ⟨66,[.fact 0],[oS 2],false⟩,
   .base ⟨172,[.fact 1,.lit .nl],[⟨.agg [.b,.s,.b,.s],[(0,0,3),(0,2,4),(2,2,5)]⟩],false⟩,
   .base ⟨105,[.fact 2],[oI 6],false⟩,
   .base ⟨75,[.lit (.ci .i64 1)],[oI 7],false⟩,
   .base ⟨59,[.fact 2],[oN 8],false⟩,
   bQ [.fact 8,.lit (.ci .i64 1)] [oN 9] (au .sub),
   .loop NQ [(NR,[.frm 21,.frm 20,.frm 15])] R4]
def R8:List Out:=[oS 0,oR 1]
set_option maxRecDepth 100000 in
theorem R9 {z:Nat->Int}{n k:Nat}{q:Rat}{kt kn:Nat} (hn:n<=1000000) (hk:k<=40000) (hkt:kt<=30000) (hkn:kn<=100000) (hB:∀j,j<=(tl z n)-1->Bd (hN z (tl z n) q.num q.den j).natAbs kn∧Bd (((q.den:Nat):Int) ^ j).natAbs kn):ai (ph (Cw z n k q kt kn)) Tryz.prog ⟨134,[.fact 0,.fact 1],[oI 10,oI 11],true⟩:=by
 have hle:=aV z n
 exact bg R8 [oI 10,oI 11] R7 Tryz.func134 (by kernel_rfl)
  (lB (ng (z:=z) (n:=n) (k:=k) (F:=(If z k)) ad bh (fun _ _ _ _ g h=>aj.kp h g) rfl (by omega) (by omega))
   (lB (RY qQ rfl rfl rfl (by omega))
   (lB (RK (z:=z) (n:=(tl z n)) (Rw.To 2 (If z k) (tl z n) (fun _ _ _ _ h=>h)) rfl (by omega) (by omega) (RX _ _))
   (lB (qX (z:=1) rfl (by decide) (by decide) rfl)
   (lB (oO (n:=(tl z n)) (fun _ _ h=>Rw.tm (sz:=2) (F:=(If z k)) (n:=(tl z n)) h) rfl (by omega) (rfl))
   (lB (cI ad (rfl) rfl (by omega) (by omega))
   (bN (counted ((tl z n)-1) (fun j=>ph (Cw z n k q kt kn ++ R3 z n k q kt kn j)) (fun _=>0) (fun j p hp=>bO (show p<(Cw z n k q kt kn).length from hp)) ⟨fun _ _ h=>h.trans (congrArg (Value.int .i64) (by omega)),fun _ _ h=>ak.re h (hB 0 (by omega)).1,fun _ _ h=>ak.re (h.eq (by rw [Int.pow_zero])) (hB 0 (by omega)).2,trivial⟩ (fun j hj=>by
   skip
   exact ⟨(NR,[.frm 21,.frm 20,.frm 15]),rfl,⟨fun _ _ h=>h.trans (congrArg (Value.int .i64) (by omega)),fun _ _ h=>ak.re (h.eq (by rw [<- Int.pow_succ];rfl)) (hB (j+1) (by omega)).1,fun _ _ h=>ak.re (h.eq (by rw [Int.pow_succ])) (hB (j+1) (by omega)).2,trivial⟩,(lB (tP ad)
   (lB (jr nI nI rfl (by omega) rfl)
   (lB (jr nI nI rfl (by omega) rfl)
   (lB (b6 (i:=((tl z n)-2-j)) (F:=(If z k)) Tryz.underlying28 (by kernel_rfl) ad (fun _ _ h=>h.trans (congrArg (Value.int .i64) (by omega))) (by omega) rfl)
   (lB (bK (sz:=2) (F:=Iw (z ((tl z n)-2-j)) k) (by kernel_rfl) (by kernel_rfl) ad (fun _ _ _ g h=>aj.kp h g) (fun _ _ h=>aj.is h) rfl)
   (lB (jr iI nI rfl (by omega) rfl)
   (lB (Jg nI nI rfl (by omega) rfl)
   (lB (cI ad (rfl) rfl (by omega) (by omega))
   aC))))))))⟩)
   (lB (chF ad)
   aC)
   (fun q hq w v h=>by
    simp only [NQ,List.mem_cons,List.not_mem_nil,or_false] at hq
    rcases hq with rfl | rfl
    ·exact (fun h=>h) h
    ·exact (fun h=>h) h)) aC)))))))
  (aK [.fact 0 (.one (.s)),.fact 1 (.agg [.b,.s,.b,.s])] ⟨Rw.Is 2 (If z k) n,fun _ _ h=>bS.is h,trivial⟩) bh
section
variable {Φ:PH}{p r x y n k kt kn:Nat}{z:Nat->Int}{q:Rat}{t t':Int}
theorem RE (hp:∀w v,Φ p w v->Rw 2 (If z k) n w v) (hr:∀w v,Φ r w v->bS w v q kt) (hx:Φ x=Nw (hN z (tl z n) q.num q.den (tl z n-1)) kn) (hy:Φ y=Nw (((q.den:Nat):Int) ^ (tl z n-1)) kn) (hn:n<=1000000) (hk:k<=40000) (hkt:kt<=30000) (hkn:kn<=100000) (hB:∀j,j<=tl z n-1->Bd (hN z (tl z n) q.num q.den j).natAbs kn∧Bd (((q.den:Nat):Int) ^ j).natAbs kn) :
  ai Φ Tryz.prog ⟨134,[.fact p,.fact r],[⟨iS,[(0,0,x)]⟩,⟨iS,[(0,0,y)]⟩],true⟩:=
 bi (R9 hn hk hkt hkn hB) ⟨hp,hr,trivial⟩ ⟨⟨rfl,⟨rfl,rfl,fun _ _ h=>hx▸h⟩,trivial⟩,⟨rfl,⟨rfl,rfl,fun _ _ h=>hy▸h⟩,trivial⟩,trivial⟩
end
section
variable {Φ:PH}{p r x y n k kt kn:Nat}{z:Nat->Int}{q:Rat}{t t':Int}
end
end Go.Proofs.YthmcngjhkmpneaaGreat.Sym
