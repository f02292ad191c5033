/- A number's residue, limb -/
import Derived.Test.YtomamliepbhegaaGreatModC
import Derived.Test.YtomamliepbhegaaGreatDivX
set_option maxRecDepth 100000
namespace Go.Proofs.YtomamliepbhegaaGreat.Sym
open Go.Proofs.Tryz
open Go.RowKit
variable {c0 j k la m m0 n n0 p:Nat}{xs:List Nat}{a b z:Nat->Int}{s0:Option Addr}{c x:Int}{w0:World}
def cE (p:Nat) (xs:List Nat):Nat->Nat
 | 0=>0
 | j+1=>(cE p xs j*4294967296+xs.getD (xs.length-1-j) 0) % p
theorem mV  (hp:0<p) (xs:List Nat):∀j,cE p xs j<p
 | 0=>hp
 | _+1=>Nat.mod_lt _ hp
theorem Fc (p x:Nat) (xs:List Nat):∀j,j<=xs.length->cE p (x :: xs) j=cE p xs j
 | 0,_=>rfl
 | j+1,h=>by
  rw [cE,cE,Fc p x xs j (by omega),List.length_cons,show xs.length+1-1-j=(xs.length-1-j)+1 by omega,List.getD_cons_succ]
theorem Fd (p:Nat):∀xs:List Nat,cE p xs xs.length % p=Proofs.YtomamliepbhegaaGreat.val 4294967296 xs % p
 | []=>by simp [cE,Proofs.YtomamliepbhegaaGreat.val]
 | x :: xs=>by
  rw [List.length_cons,cE,Fc p x xs _ (Nat.le_refl _),List.length_cons,show xs.length+1-1-xs.length=0 by omega,List.getD_cons_zero,Nat.mod_mod,Nat.add_mod,Nat.mul_mod,Fd p xs,<- Nat.mul_mod,<- Nat.add_mod,Proofs.YtomamliepbhegaaGreat.val,Nat.mul_comm,Nat.add_comm]
theorem Vl  (hp:0<p) (xs:List Nat) (b:Bool):(if b=true∧0<cE p xs xs.length then ((p-cE p xs xs.length:Nat):Int) else (cE p xs xs.length:Int))=sg b (Proofs.YtomamliepbhegaaGreat.val 4294967296 xs) % p:=by
 have h1:=Fd p xs
 have h2:=mV hp xs xs.length
 rw [Nat.mod_eq_of_lt h2] at h1
 rw [h1]
 have h3:=Nat.mod_lt (Proofs.YtomamliepbhegaaGreat.val 4294967296 xs) hp
 generalize Proofs.YtomamliepbhegaaGreat.val 4294967296 xs=X at *
 cases b
 ·rw [if_neg (by simp)]
  exact Int.natCast_emod X p
 ·show _=(-(X:Int)) % p
  have h5:(X:Int)=p*((X / p:Nat):Int)+((X % p:Nat):Int):=by
   rw [<- Int.natCast_mul,<- Int.natCast_add,Nat.div_add_mod]
  generalize X / p=q at *
  generalize X % p=r at *
  by_cases h4:0<r
  ·rw [if_pos ⟨rfl,h4⟩,show -(X:Int)=((p-r:Nat):Int)+p*(-(q:Int)-1) by rw [Int.mul_sub,Int.mul_neg];omega,Int.add_mul_emod_self_left,Int.emod_eq_of_lt (by omega) (by omega)]
  ·rw [if_neg fun h=>h4 h.2,show -(X:Int)=0+p*(-(q:Int)) by rw [Int.mul_neg];omega,Int.add_mul_emod_self_left,Int.zero_emod]
   omega
abbrev lmb (xs:List Nat):Nat->Int:=fun i=>((xs.getD i 0:Nat):Int)
theorem tv  (h:All 4294967296 xs) (i:Nat):xs.getD i 0<4294967296:=bE (by omega) h i
theorem xi  (h:All 4294967296 xs) (i:Nat):0<=lmb xs i∧lmb xs i<4294967296:=by
 have:=tv h i
 show 0<=((xs.getD i 0:Nat):Int)∧((xs.getD i 0:Nat):Int)<4294967296
 omega
theorem aT.lim {w:World}{v:Value}{b:Bool} (h:aT w v b xs):Rw 1 (aA .u32 (lmb xs)) xs.length w (bw 1 1 v):=by
 obtain ⟨s,rfl,h1,-⟩:=h
 exact TZ h1
def xj (xs:List Nat) (p:Nat):List WP:=[fun w v=>aT w v false xs,Rw 1 (aA .u32 (lmb xs)) xs.length,Nu ((p:Nat):Int),Ni ((xs.length:Nat):Int),Ni (((xs.length:Nat):Int)-1),Nu ((cE p xs xs.length:Nat):Int)]
def Vm (xs:List Nat) (p:Nat) (j:Nat):List WP:=[Nu ((cE p xs j:Nat):Int),Ni (((xs.length:Nat):Int)-1-((j:Nat):Int)),Nu ((cE p xs j*4294967296:Nat):Int),fun w v=>Ptr 1 (fun _ v=>v = .agg #[.int .u32 ((lmb xs) (xs.length-1-j))]) w v,fun _ v=>v = .int .u32 ((lmb xs) (xs.length-1-j)),Nu ((lmb xs) (xs.length-1-j)),Nu ((cE p xs j*4294967296+xs.getD (xs.length-1-j) 0:Nat):Int),Nu ((cE p xs (j+1):Nat):Int),Ni ((((xs.length:Nat):Int)-1-((j:Nat):Int))-1)]
def Ff:bf:=⟨[0,1,2,4,7,8,9,10],[(.slot 5,.nk),(.slot 6,.i)],[(.one 0,6),(.one 1,7)],[.closed (.one (.ci .u64 0)),.frm 4],6,[(6,5)]⟩
def Fg:List Step:=[bQ [7,.lit (.ci .i64 0)] oT (ak .geq),bQ [6,.lit (.ci .u64 32)] [oK 8] (aD .shl),bQ [1,7] [oP 9] (aH 55),bQ [9] [oK 10] (aI 105),bQ [10] [oK 11] (iq 105 99),bQ [8,11] [oK 12] (aD .or),bQ [12,2] [oK 13] (aD .rem),bQ [7,.lit (.ci .i64 1)] [oN 14] (ak .sub)]
def Vn:List Step:=[bQ [7,.lit (.ci .i64 0)] oF (ak .geq)]
def Vo:List Step:=[bQ [1] [oN 3] (aC 55),bQ [3,.lit (.ci .i64 1)] [oN 4] (ak .sub),.loop Ff [(Fg,[.frm 13,.frm 14])] Vn]
def Vp:List Out:=[⟨.agg [.lit (.cb false),.s],[(0,0,0),(1,1,1)]⟩,oK 2]
theorem Vq  (ax:All 4294967296 xs) (hl:xs.length<=500000) (hp0:0<p) (ft:p<2147483648)  : aj (ph (xj xs p)) prog ⟨96,[0,2],[oK 5],false⟩:=by
 have hend:cE p xs xs.length<p:=mV hp0 xs xs.length
 exact aV Vp [oK 5] Vo func96 (by kernel_rfl) (lB (aJ (F:=(aA .u32 (lmb xs))) underlying55 ad rfl) (lB (bO ad (hc:=(rfl)) rfl) (bk (counted xs.length (fun j=>ph (xj xs p ++ Vm xs p j)) (fun _=>0) (fun j p hp=>bm (show p<(xj xs p).length from hp)) ⟨fun _=>rfl,fun _ _ h=>h.trans (congrArg (Value.int .i64) (by omega)),trivial⟩ (fun j hj=>by
   have hr:cE p xs j<p:=mV hp0 xs j;have hq:=xi ax (xs.length-1-j)
   exact ⟨(Fg,[.frm 13,.frm 14]),rfl,⟨ad,fun _ _ h=>h.trans (congrArg (Value.int .i64) (by omega)),trivial⟩,(lB (mA ad) (lB (cG (op:=.shl) ad (wZ rfl (by omega)) rfl) (lB (bz (i:=(xs.length-1-j)) (F:=(aA .u32 (lmb xs))) underlying55 ad (fun _ _ h=>h.trans (congrArg (Value.int .i64) (by omega))) rfl) (lB (ir ad rfl) (lB (xb underlying99 ad (xe hq.1 hq.2) rfl) (lB (bF (op:=.or) ad ad (xa rfl (by omega) (tv ax _)) rfl) (lB (bF (op:=.rem) ad ad (jS rfl hp0) rfl) (lB (bO ad (hc:=(rfl)) rfl) au))))))))⟩) (lB (chF ad) au)
   (fun q hq w v h=>by
    simp only [Ff,List.mem_cons,List.not_mem_nil,or_false] at hq
    rcases hq with rfl
    ·exact (fun h=>h) h)) au)))
  (aK [.sub 0 (.agg [.lit (.cb false),.s]) [(1,1,1)],.fact 2 (.one (.nk))] ⟨⟨fun _ _ h=>aT.is' h,fun _ _ h=>aT.lim h,trivial⟩,fun _ _ h=>h▸cJ _ _,trivial⟩) (fun _ _ _ h=>h)
def xk (xs:List Nat) (p:Nat):List WP:=[fun w v=>aT w v true xs,Rw 1 (aA .u32 (lmb xs)) xs.length,Nu ((p:Nat):Int),Ni ((xs.length:Nat):Int),Ni (((xs.length:Nat):Int)-1),Nu ((cE p xs xs.length:Nat):Int)]
def Vr (xs:List Nat) (p:Nat) (j:Nat):List WP:=[Nu ((cE p xs j:Nat):Int),Ni (((xs.length:Nat):Int)-1-((j:Nat):Int)),Nu ((cE p xs j*4294967296:Nat):Int),fun w v=>Ptr 1 (fun _ v=>v = .agg #[.int .u32 ((lmb xs) (xs.length-1-j))]) w v,fun _ v=>v = .int .u32 ((lmb xs) (xs.length-1-j)),Nu ((lmb xs) (xs.length-1-j)),Nu ((cE p xs j*4294967296+xs.getD (xs.length-1-j) 0:Nat):Int),Nu ((cE p xs (j+1):Nat):Int),Ni ((((xs.length:Nat):Int)-1-((j:Nat):Int))-1)]
def Fh:bf:=⟨[0,1,2,4,7,8,9,10],[(.slot 5,.nk),(.slot 6,.i)],[(.one 0,6),(.one 1,7)],[.closed (.one (.ci .u64 0)),.frm 4],6,[(6,5)]⟩
def Fi:List Step:=[bQ [7,.lit (.ci .i64 0)] oT (ak .geq),bQ [6,.lit (.ci .u64 32)] [oK 8] (aD .shl),bQ [1,7] [oP 9] (aH 55),bQ [9] [oK 10] (aI 105),bQ [10] [oK 11] (iq 105 99),bQ [8,11] [oK 12] (aD .or),bQ [12,2] [oK 13] (aD .rem),bQ [7,.lit (.ci .i64 1)] [oN 14] (ak .sub)]
def Vs:List Step:=[bQ [7,.lit (.ci .i64 0)] oF (ak .geq)]
def Vt:List Step:=[bQ [1] [oN 3] (aC 55),bQ [3,.lit (.ci .i64 1)] [oN 4] (ak .sub),.loop Fh [(Fi,[.frm 13,.frm 14])] Vs,bQ [5,.lit (.ci .u64 0)] oF (aD .gtr)]
def Vu:List Out:=[⟨.agg [.lit (.cb true),.s],[(0,0,0),(1,1,1)]⟩,oK 2]
theorem Vv  (ax:All 4294967296 xs) (hl:xs.length<=500000) (hp0:0<p) (ft:p<2147483648) (h0:cE p xs xs.length=0):aj (ph (xk xs p)) prog ⟨96,[0,2],[oK 5],false⟩:=by
 have hend:cE p xs xs.length<p:=mV hp0 xs xs.length
 exact aV Vu [oK 5] Vt func96 (by kernel_rfl) (lB (aJ (F:=(aA .u32 (lmb xs))) underlying55 ad rfl) (lB (bO ad (hc:=(rfl)) rfl) (bk (counted xs.length (fun j=>ph (xk xs p ++ Vr xs p j)) (fun _=>0) (fun j p hp=>bm (show p<(xk xs p).length from hp)) ⟨fun _=>rfl,fun _ _ h=>h.trans (congrArg (Value.int .i64) (by omega)),trivial⟩ (fun j hj=>by
   have hr:cE p xs j<p:=mV hp0 xs j;have hq:=xi ax (xs.length-1-j)
   exact ⟨(Fi,[.frm 13,.frm 14]),rfl,⟨ad,fun _ _ h=>h.trans (congrArg (Value.int .i64) (by omega)),trivial⟩,(lB (mA ad) (lB (cG (op:=.shl) ad (wZ rfl (by omega)) rfl) (lB (bz (i:=(xs.length-1-j)) (F:=(aA .u32 (lmb xs))) underlying55 ad (fun _ _ h=>h.trans (congrArg (Value.int .i64) (by omega))) rfl) (lB (ir ad rfl) (lB (xb underlying99 ad (xe hq.1 hq.2) rfl) (lB (bF (op:=.or) ad ad (xa rfl (by omega) (tv ax _)) rfl) (lB (bF (op:=.rem) ad ad (jS rfl hp0) rfl) (lB (bO ad (hc:=(rfl)) rfl) au))))))))⟩) (lB (chF ad) au)
   (fun q hq w v h=>by
    simp only [Fh,List.mem_cons,List.not_mem_nil,or_false] at hq
    rcases hq with rfl
    ·exact (fun h=>h) h)) (lB (dl (op:=.gtr) ad (cA (decide_eq_false (by omega)) (by simp))) au))))
  (aK [.sub 0 (.agg [.lit (.cb true),.s]) [(1,1,1)],.fact 2 (.one (.nk))] ⟨⟨fun _ _ h=>aT.is' h,fun _ _ h=>aT.lim h,trivial⟩,fun _ _ h=>h▸cJ _ _,trivial⟩) (fun _ _ _ h=>h)
def xl (xs:List Nat) (p:Nat):List WP:=[fun w v=>aT w v true xs,Rw 1 (aA .u32 (lmb xs)) xs.length,Nu ((p:Nat):Int),Ni ((xs.length:Nat):Int),Ni (((xs.length:Nat):Int)-1),Nu ((cE p xs xs.length:Nat):Int),Nu ((p-cE p xs xs.length:Nat):Int)]
def Vw (xs:List Nat) (p:Nat) (j:Nat):List WP:=[Nu ((cE p xs j:Nat):Int),Ni (((xs.length:Nat):Int)-1-((j:Nat):Int)),Nu ((cE p xs j*4294967296:Nat):Int),fun w v=>Ptr 1 (fun _ v=>v = .agg #[.int .u32 ((lmb xs) (xs.length-1-j))]) w v,fun _ v=>v = .int .u32 ((lmb xs) (xs.length-1-j)),Nu ((lmb xs) (xs.length-1-j)),Nu ((cE p xs j*4294967296+xs.getD (xs.length-1-j) 0:Nat):Int),Nu ((cE p xs (j+1):Nat):Int),Ni ((((xs.length:Nat):Int)-1-((j:Nat):Int))-1)]
def Fj:bf:=⟨[0,1,2,4,7,8,9,10],[(.slot 5,.nk),(.slot 6,.i)],[(.one 0,7),(.one 1,8)],[.closed (.one (.ci .u64 0)),.frm 4],7,[(7,5)]⟩
def Fk:List Step:=[bQ [8,.lit (.ci .i64 0)] oT (ak .geq),bQ [7,.lit (.ci .u64 32)] [oK 9] (aD .shl),bQ [1,8] [oP 10] (aH 55),bQ [10] [oK 11] (aI 105),bQ [11] [oK 12] (iq 105 99),bQ [9,12] [oK 13] (aD .or),bQ [13,2] [oK 14] (aD .rem),bQ [8,.lit (.ci .i64 1)] [oN 15] (ak .sub)]
def VC:List Step:=[bQ [8,.lit (.ci .i64 0)] oF (ak .geq)]
def VD:List Step:=[bQ [1] [oN 3] (aC 55),bQ [3,.lit (.ci .i64 1)] [oN 4] (ak .sub),.loop Fj [(Fk,[.frm 14,.frm 15])] VC,bQ [5,.lit (.ci .u64 0)] oT (aD .gtr),bQ [2,5] [oK 6] (aD .sub)]
def VE:List Out:=[⟨.agg [.lit (.cb true),.s],[(0,0,0),(1,1,1)]⟩,oK 2]
theorem VF  (ax:All 4294967296 xs) (hl:xs.length<=500000) (hp0:0<p) (ft:p<2147483648) (h0:0<cE p xs xs.length):aj (ph (xl xs p)) prog ⟨96,[0,2],[oK 6],false⟩:=by
 have hend:cE p xs xs.length<p:=mV hp0 xs xs.length
 exact aV VE [oK 6] VD func96 (by kernel_rfl) (lB (aJ (F:=(aA .u32 (lmb xs))) underlying55 ad rfl) (lB (bO ad (hc:=(rfl)) rfl) (bk (counted xs.length (fun j=>ph (xl xs p ++ Vw xs p j)) (fun _=>0) (fun j p hp=>bm (show p<(xl xs p).length from hp)) ⟨fun _=>rfl,fun _ _ h=>h.trans (congrArg (Value.int .i64) (by omega)),trivial⟩ (fun j hj=>by
   have hr:cE p xs j<p:=mV hp0 xs j;have hq:=xi ax (xs.length-1-j)
   exact ⟨(Fk,[.frm 14,.frm 15]),rfl,⟨ad,fun _ _ h=>h.trans (congrArg (Value.int .i64) (by omega)),trivial⟩,(lB (mA ad) (lB (cG (op:=.shl) ad (wZ rfl (by omega)) rfl) (lB (bz (i:=(xs.length-1-j)) (F:=(aA .u32 (lmb xs))) underlying55 ad (fun _ _ h=>h.trans (congrArg (Value.int .i64) (by omega))) rfl) (lB (ir ad rfl) (lB (xb underlying99 ad (xe hq.1 hq.2) rfl) (lB (bF (op:=.or) ad ad (xa rfl (by omega) (tv ax _)) rfl) (lB (bF (op:=.rem) ad ad (jS rfl hp0) rfl) (lB (bO ad (hc:=(rfl)) rfl) au))))))))⟩) (lB (chF ad) au)
   (fun q hq w v h=>by
    simp only [Fj,List.mem_cons,List.not_mem_nil,or_false] at hq
    rcases hq with rfl
    ·exact (fun h=>h) h)) (lB (ugT ad) (lB (bF (op:=.sub) ad ad (run_sub64 rfl (by omega) (by omega)) rfl) au)))))
  (aK [.sub 0 (.agg [.lit (.cb true),.s]) [(1,1,1)],.fact 2 (.one (.nk))] ⟨⟨fun _ _ h=>aT.is' h,fun _ _ h=>aT.lim h,trivial⟩,fun _ _ h=>h▸cJ _ _,trivial⟩) (fun _ _ _ h=>h)
section
variable {Φ:PH}{q x P:Nat}{z:Int}
theorem eN (hp:∀w v,Φ p w v->aE w v z k) (hq:∀w v,Φ q w v->v = .int .u64 ((P:Nat):Int)) (hx:Φ x=Nu (z % ((P:Nat):Int))) (hk:k<=500000:=by omega) (hP:0<P:=by omega) (eh:P<2147483648:=by omega):aj Φ prog ⟨96,[.fact p,.fact q],[oK x],false⟩:=fun X w vs hX ha=>by
 match vs,ha with
 | [v,u],ha=>
  obtain ⟨b,s,Y,rfl,⟨xs,hs,ax,hY,hl⟩,rfl⟩:=hp _ _ (ha.1 w (Off.refl _ _))
  have hr:=Vl hP xs b
  rw [hY] at hr
  have hraw:∀w1,Off X w w1->aT w1 (.agg #[.bool b,s]) b xs:=fun w1 hw=>⟨s,rfl,hs.kp hw.1,ax⟩
  have hu:∀w1,Off X w w1->u = .int .u64 ((P:Nat):Int):=fun w1 hw=>hq _ _ (ha.2.1 w1 hw)
  have fin:∀{Ψ:List WP}{r:Int}{e:Ending}{w':World}{o:Nat},r=sg b Y % (P:Int)->(w.grownBy w' none∧∃us:List Value,e = .returned (if (Site.mk 96 [] [] false).be then .tuple us.toArray else us.headD undef)∧bp (ph Ψ) X w' [oK o] us)->(∀w v,ph Ψ o w v->v = .int .u64 r)->w.grownBy w' none∧∃us:List Value,e = .returned (if (Site.mk 96 [] [] false).be then .tuple us.toArray else us.headD undef)∧bp Φ X w' [oK x] us:=fun hr ⟨hg,us,he,h⟩ ho=>by
   refine ⟨hg,us,he,?_⟩
   match us,h with
   | [u],h=>exact cL h.1.1 hx fun w1 hw=>by rw [<- hr];exact ho _ _ (h.1.2 _ (List.mem_singleton.2 rfl) w1 hw)
  cases b
  ·rw [if_neg (by simp)] at hr
   exact (Vq ax (by omega) hP eh X w [.agg #[.bool false,s],u] hX ⟨fun w1 hw=>hraw w1 hw,fun w1 hw=>hu w1 hw,trivial⟩).mono fun e w' h=>fin hr h fun _ _ h=>h
  ·by_cases h0:0<cE P xs xs.length
   ·rw [if_pos ⟨rfl,h0⟩] at hr
    exact (VF ax (by omega) hP eh h0 X w [.agg #[.bool true,s],u] hX ⟨fun w1 hw=>hraw w1 hw,fun w1 hw=>hu w1 hw,trivial⟩).mono fun e w' h=>fin hr h fun _ _ h=>h
   ·rw [if_neg fun h=>h0 h.2] at hr
    exact (Vv ax (by omega) hP eh (by omega) X w [.agg #[.bool true,s],u] hX ⟨fun w1 hw=>hraw w1 hw,fun w1 hw=>hu w1 hw,trivial⟩).mono fun e w' h=>fin hr h fun _ _ h=>h
end
def xm (z:Nat->Int) (n0 c0:Nat) (s0:Option Addr):List WP:=[df s0 c0 1 (aA .u64 z) n0,df s0 c0 1 (aA .u64 z) (tl z n0)]
def VG (z:Nat->Int) (n0 c0:Nat) (s0:Option Addr) (j:Nat):List WP:=[df s0 c0 1 (aA .u64 z) (n0-j),Nz (n0-j),Nz (n0-j),Nz (n0-(j+1)),fun w v=>Ptr 1 (fun _ v=>v = .agg #[.int .u64 (z (n0-(j+1)))]) w v,Nu (z (n0-(j+1))),Nz (n0-j),Nz (n0-(j+1)),df s0 c0 1 (aA .u64 z) (n0-(j+1)),Nz (n0-j)]
def Fl:bf:=⟨[2],[(.slot 0,.s)],[(.one 0,2)],[.frm 0],2,[(2,1)]⟩
def Fm:List Step:=[bQ [2] [oN 3] (aC 116),bQ [3,.lit (.ci .i64 0)] oT (ak .gtr),bQ [2] [oN 4] (aC 116),bQ [4,.lit (.ci .i64 1)] [oN 5] (ak .sub),bQ [2,5] [oP 6] (aH 116),bQ [6] [oK 7] (aI 99),bQ [7,.lit (.ci .u64 0)] oT (aD .eql),bQ [2] [oN 8] (aC 116),bQ [8,.lit (.ci .i64 1)] [oN 9] (ak .sub),bQ [2,9] [oS 10] (ec 116)]
def VH:List Step:=[bQ [2] [oN 11] (aC 116),bQ [11,.lit (.ci .i64 0)] oF (ak .gtr)]
def VI:List Step:=[.loop Fl [(Fm,[.frm 10])] VH]
def VJ:List Out:=[oS 0]
theorem VK  (hn:n0<=1000000) (ht:tl z n0=0):aj (ph (xm z n0 c0 s0)) prog ⟨120,[0],[oS 1],false⟩:=by
 have hle:=aL z n0
 exact aV VJ [oS 1] VI func120 (by kernel_rfl) (bk (counted (n0-tl z n0) (fun j=>ph (xm z n0 c0 s0 ++ VG z n0 c0 s0 j)) (fun _=>0) (fun j p hp=>bm (show p<(xm z n0 c0 s0).length from hp)) ⟨ad,trivial⟩ (fun j hj=>by
   have h0:z (n0-(j+1))=0:=gK z n0 _ (by omega) (by omega)
   exact ⟨(Fm,[.frm 10]),rfl,⟨ad,trivial⟩,(lB (gJ (sz:=1) (n:=(n0-j)) (F:=(aA .u64 z)) underlying116 (fun _ _ h=>Rw.arr h.2) rfl) (lB (eX ad) (lB (gJ (sz:=1) (n:=(n0-j)) (F:=(aA .u64 z)) underlying116 (fun _ _ h=>Rw.arr h.2) rfl) (lB (bO ad rfl) (lB (lF (i:=(n0-(j+1))) (sz:=1) (n:=(n0-j)) (F:=(aA .u64 z)) underlying116 (by kernel_rfl) (fun _ _ h=>Rw.arr h.2) ad (by omega) rfl) (lB (ir ad rfl) (lB (dl (op:=.eql) ad (cA (beq_iff_eq.2 h0) (by simp))) (lB (gJ (sz:=1) (n:=(n0-j)) (F:=(aA .u64 z)) underlying116 (fun _ _ h=>Rw.arr h.2) rfl) (lB (bO ad rfl) (lB (pQ (m:=(n0-(j+1))) (n:=(n0-j)) (F:=(aA .u64 z)) underlying116 (by kernel_rfl) ad ad (by first | omega | exact aL _ _) rfl) au))))))))))⟩)
   (by
   have hle:=aL z n0
   exact (lB (gJ (sz:=1) (n:=(n0-((n0-tl z n0)))) (F:=(aA .u64 z)) underlying116 (fun _ _ h=>Rw.arr h.2) rfl) (lB (kC ad) au)))
   (fun q hq w v h=>by
    simp only [Fl,List.mem_cons,List.not_mem_nil,or_false] at hq
    rcases hq with rfl
    ·exact (fun h=>by have h':df s0 c0 1 (aA .u64 z) (n0-(n0-tl z n0)) w v:=h;rw [show n0-(n0-tl z n0)=tl z n0 by have:=aL z n0;omega] at h';exact h') h)) au)
  (aK [.fact 0 (.one (.s))] ⟨fun _ _ h=>Rw.is (sz:=1) (F:=(aA .u64 z)) (n:=n0) h.2,trivial⟩) bg
def xn (z:Nat->Int) (n0 c0:Nat) (s0:Option Addr):List WP:=[df s0 c0 1 (aA .u64 z) n0,df s0 c0 1 (aA .u64 z) (tl z n0)]
def VL (z:Nat->Int) (n0 c0:Nat) (s0:Option Addr) (j:Nat):List WP:=[df s0 c0 1 (aA .u64 z) (n0-j),Nz (n0-j),Nz (n0-j),Nz (n0-(j+1)),fun w v=>Ptr 1 (fun _ v=>v = .agg #[.int .u64 (z (n0-(j+1)))]) w v,Nu (z (n0-(j+1))),Nz (n0-j),Nz (n0-(j+1)),df s0 c0 1 (aA .u64 z) (n0-(j+1)),Nz (n0-j),Nz (n0-j),Nz (tl z n0-1),fun w v=>Ptr 1 (fun _ v=>v = .agg #[.int .u64 (z (tl z n0-1))]) w v,Nu (z (tl z n0-1))]
def Fo:bf:=⟨[2],[(.slot 0,.s)],[(.one 0,2)],[.frm 0],2,[(2,1)]⟩
def Fp:List Step:=[bQ [2] [oN 3] (aC 116),bQ [3,.lit (.ci .i64 0)] oT (ak .gtr),bQ [2] [oN 4] (aC 116),bQ [4,.lit (.ci .i64 1)] [oN 5] (ak .sub),bQ [2,5] [oP 6] (aH 116),bQ [6] [oK 7] (aI 99),bQ [7,.lit (.ci .u64 0)] oT (aD .eql),bQ [2] [oN 8] (aC 116),bQ [8,.lit (.ci .i64 1)] [oN 9] (ak .sub),bQ [2,9] [oS 10] (ec 116)]
def VM:List Step:=[bQ [2] [oN 11] (aC 116),bQ [11,.lit (.ci .i64 0)] oT (ak .gtr),bQ [2] [oN 12] (aC 116),bQ [12,.lit (.ci .i64 1)] [oN 13] (ak .sub),bQ [2,13] [oP 14] (aH 116),bQ [14] [oK 15] (aI 99),bQ [15,.lit (.ci .u64 0)] oF (aD .eql)]
def VN:List Step:=[.loop Fo [(Fp,[.frm 10])] VM]
def VO:List Out:=[oS 0]
theorem VP  (hn:n0<=1000000) (ht:0<tl z n0):aj (ph (xn z n0 c0 s0)) prog ⟨120,[0],[oS 1],false⟩:=by
 have hle:=aL z n0
 exact aV VO [oS 1] VN func120 (by kernel_rfl) (bk (counted (n0-tl z n0) (fun j=>ph (xn z n0 c0 s0 ++ VL z n0 c0 s0 j)) (fun _=>0) (fun j p hp=>bm (show p<(xn z n0 c0 s0).length from hp)) ⟨ad,trivial⟩ (fun j hj=>by
   have h0:z (n0-(j+1))=0:=gK z n0 _ (by omega) (by omega)
   exact ⟨(Fp,[.frm 10]),rfl,⟨ad,trivial⟩,(lB (gJ (sz:=1) (n:=(n0-j)) (F:=(aA .u64 z)) underlying116 (fun _ _ h=>Rw.arr h.2) rfl) (lB (eX ad) (lB (gJ (sz:=1) (n:=(n0-j)) (F:=(aA .u64 z)) underlying116 (fun _ _ h=>Rw.arr h.2) rfl) (lB (bO ad rfl) (lB (lF (i:=(n0-(j+1))) (sz:=1) (n:=(n0-j)) (F:=(aA .u64 z)) underlying116 (by kernel_rfl) (fun _ _ h=>Rw.arr h.2) ad (by omega) rfl) (lB (ir ad rfl) (lB (dl (op:=.eql) ad (cA (beq_iff_eq.2 h0) (by simp))) (lB (gJ (sz:=1) (n:=(n0-j)) (F:=(aA .u64 z)) underlying116 (fun _ _ h=>Rw.arr h.2) rfl) (lB (bO ad rfl) (lB (pQ (m:=(n0-(j+1))) (n:=(n0-j)) (F:=(aA .u64 z)) underlying116 (by kernel_rfl) ad ad (by first | omega | exact aL _ _) rfl) au))))))))))⟩)
   (by
   have hle:=aL z n0;have hl:=fb z n0 ht
   exact (lB (gJ (sz:=1) (n:=(n0-((n0-tl z n0)))) (F:=(aA .u64 z)) underlying116 (fun _ _ h=>Rw.arr h.2) rfl) (lB (eX ad) (lB (gJ (sz:=1) (n:=(n0-((n0-tl z n0)))) (F:=(aA .u64 z)) underlying116 (fun _ _ h=>Rw.arr h.2) rfl) (lB (bO ad rfl) (lB (lF (i:=(tl z n0-1)) (sz:=1) (n:=(n0-((n0-tl z n0)))) (F:=(aA .u64 z)) underlying116 (by kernel_rfl) (fun _ _ h=>Rw.arr h.2) ad (by omega) rfl) (lB (ir ad rfl) (lB (dl (op:=.eql) ad (cA (beq_eq_false_iff_ne.2 hl) (by simp))) au))))))))
   (fun q hq w v h=>by
    simp only [Fo,List.mem_cons,List.not_mem_nil,or_false] at hq
    rcases hq with rfl
    ·exact (fun h=>by have h':df s0 c0 1 (aA .u64 z) (n0-(n0-tl z n0)) w v:=h;rw [show n0-(n0-tl z n0)=tl z n0 by have:=aL z n0;omega] at h';exact h') h)) au)
  (aK [.fact 0 (.one (.s))] ⟨fun _ _ h=>Rw.is (sz:=1) (F:=(aA .u64 z)) (n:=n0) h.2,trivial⟩) bg
section
variable {Φ:PH}{x:Nat}
theorem Fq  (hp:∀w v,Φ p w v->df s0 c0 1 (aA .u64 z) n w v) (hx:Φ x=df s0 c0 1 (aA .u64 z) (tl z n)) (hn:n<=1000000):aj Φ prog ⟨120,[.fact p],[oS x],false⟩:=by
 rcases Nat.eq_zero_or_pos (tl z n) with h | h
 ·exact aW (VK hn h) ⟨hp,trivial⟩ ⟨⟨rfl,⟨rfl,rfl,fun _ _ h=>hx▸h⟩,trivial⟩,trivial⟩
 ·exact aW (VP hn h) ⟨hp,trivial⟩ ⟨⟨rfl,⟨rfl,rfl,fun _ _ h=>hx▸h⟩,trivial⟩,trivial⟩
theorem VQ (hp:∀w v,Φ p w v->ah 1 99 (aA .u64 z) n w v) (hx:Φ x=ah 1 99 (aA .u64 z) (tl z n)) (hn:n<=1000000:=by omega):aj Φ prog ⟨120,[.fact p],[oS x],.mC [] j 0⟩:=fun X L w vs hX hL hLX ha hb=>by
 match vs,ha with
 | [v],ha=>
  have h1:=hp _ _ (ha.1 w (Off.refl _ _))
  obtain ⟨s0,c0,rfl,hc,he⟩:=h1.rw
  refine (Fq (Φ:=ph [df s0 c0 1 (aA .u64 z) n,df s0 c0 1 (aA .u64 z) (tl z n)]) (p:=0) (x:=1) (s0:=s0) (c0:=c0) ad rfl hn X w [.slice s0 n c0] hX ⟨fun w1 hw=>⟨rfl,(hp _ _ (ha.1 w1 hw)).rw⟩,trivial⟩).mono fun e w' ⟨hg,us,he,ho⟩=>?_
  match us,ho with
  | [u],ho=>
   have hu:=ho.1.2 _ (List.mem_singleton.2 rfl) w' (Off.refl _ _)
   obtain ⟨rfl,-⟩:u = .slice s0 (tl z n) c0∧_:=hu
   refine ⟨hg,_,he,cL ⟨⟨_,_,_,rfl⟩,fun _ h=>by cases h⟩ hx fun w1 hw=>(hp _ _ (ha.1 w1 ((Off.grown hg).trans hw fun _ _ h=>h))).take (aL z n),fun g hg'=>?_⟩
   have hg2:blk (.slice s0 n c0)=some g:=by
    revert hg'
    cases s0 <;> exact fun h=>h
   have h3:=hb _ g rfl hg2
   exact ⟨Nat.lt_of_lt_of_le (hL g h3) hg.size,.inl h3⟩
end
def xo (z:Nat->Int) (n k p:Nat):List WP:=[Rw 2 (If z k) n,Nu ((p:Nat):Int),Nz n,ah 1 99 (aA .u64 (upto 0 (img p z))) n,Nz n,ah 1 99 (aA .u64 (upto n (img p z))) n,ah 1 99 (aA .u64 (upto n (img p z))) (tl (upto n (img p z)) n)]
def VR (z:Nat->Int) (n k p:Nat) (j:Nat):List WP:=[Nz j,ah 1 99 (aA .u64 (upto j (img p z))) n,fun _ _=>True,Ptr 2 (Iw (z j) k),Iw (z j) k,Nu ((z j) % ((p:Nat):Int)),At 1,fun w v=>Ptr 1 (fun _ v=>v = .agg #[.int .u64 ((upto j (img p z)) j)]) w v,ah 1 99 (aA .u64 (upto (j+1) (img p z))) n,Nz (j+1)]
def Fr:bf:=⟨[0,1,4,8,9,10,11,12],[(.slot 13,.i),(.slot 5,.s)],[(.one 0,7),(.one 1,.bB [1] 8),(.one 1,.lo 1)],[.closed (.one (.ci .i64 0)),.frm 3,.frm 0],7,[(8,5)]⟩
def Fs:List Step:=[bQ [7,4] oT (ak .lss),bQ [0,7] [oP 10] (aH 28),bQ [10] [oI 11] (aI 57),.base ⟨96,[11,1],[oK 12],false⟩,.base ⟨0,[8,7],[oP 14],.joint [1] 13 (aH 116)⟩,.base ⟨0,[8,7,.any,12],[oS 15],.put [] 1 0 13 (dR 99 (.tmp 18) (.tmp 19))⟩,bQ [7,.lit (.ci .i64 1)] [oN 16] (ak .add)]
def VS:List Step:=[bQ [7,4] oF (ak .lss)]
def VT:List Step:=[bQ [0] [oN 2] (aC 28),.base ⟨0,[2,2],[oS 3],.loose [] 1 0 (fE 116)⟩,bQ [0] [oN 4] (aC 28),.loop Fr [(Fs,[.frm 16,.frm 15,.frm 0])] VS,.base ⟨120,[5],[oS 6],.mC [] 1 0⟩]
def VU:List Out:=[oS 0,oK 1]
theorem VV  (hn:n<=1000000) (hk:k<=500000) (hp0:0<p) (ft:p<2147483648):gw (ph (xo z n k p)) prog ⟨98,[0,1],[oS 6],false⟩:=nT VU [oS 6] VT func98 (by kernel_rfl) (lB (aJ (F:=(If z k)) underlying28 ad rfl) (lB (TY (n:=n) ad (fun i=>rfl) rfl) (lB (aJ (F:=(If z k)) underlying28 ad rfl) (bk (counted n (fun j=>ph (xo z n k p ++ VR z n k p j)) (fun _=>0) (fun j p hp=>bm (show p<(xo z n k p).length from hp)) ⟨fun _=>rfl,ad,aP,trivial⟩ (fun j hj=>by
   skip
   exact ⟨(Fs,[.frm 16,.frm 15,.frm 0]),rfl,⟨ad,ad,aP,trivial⟩,(lB (bT ad ad) (lB (bz (i:=j) (F:=(If z k)) underlying28 ad ad rfl) (lB (cm (sz:=2) (F:=Iw (z j) k) ad (fun _ _ _ g h=>aE.kp h g) (fun _ _ h=>aE.is h) rfl) (lB (eN (P:=p) iI ad rfl) (lB (bW (i:=j) (sz:=1) (n:=n) (F:=(aA .u64 (upto j (img p z)))) underlying116 (fun _ _ h=>ah.arr h) ad rfl rfl) (lB (xc (i:=j) (n:=n) (Z:=(upto j (img p z))) (Z':=(upto (j+1) (img p z))) (.tmp 18) (.tmp 19) ad ad ad rfl (fun i h=>(od h).symm) ((oe j (img p z)).symm) rfl) (lB (ce ad rfl) au)))))))⟩) (lB (tlF ad ad) au)
   (fun q hq w v h=>by
    simp only [Fr,List.mem_cons,List.not_mem_nil,or_false] at hq
    rcases hq with rfl
    ·exact (fun h=>h) h)) (lB (VQ (z:=(upto n (img p z))) (n:=n) ad rfl) au)))))
  (aK [.fact 0 (.one (.s)),.fact 1 (.one (.nk))] ⟨Rw.Is 2 (If z k) n,fun _ _ h=>h▸cJ _ _,trivial⟩) (fun _ _ _ h=>h)
section
variable {Φ:PH}{q x P:Nat}{J:List Nat}
theorem fh (hp:∀w v,Φ p w v->Rw 2 (If z k) n w v) (hq:∀w v,Φ q w v->v = .int .u64 ((P:Nat):Int)) (hx:Φ x=ah 1 99 (aA .u64 (img P z)) (tl (img P z) n)) (hn:n<=1000000:=by omega) (hk:k<=500000:=by omega) (hP:0<P:=by omega) (eh:P<2147483648:=by omega):aj Φ prog ⟨98,[.fact p,.fact q],[oS x],.cM J j⟩:=
 rP (VV hn hk hP eh) ⟨hp,hq,trivial⟩ ⟨⟨rfl,⟨rfl,rfl,fun w v h=>by
  rw [hx]
  have e:tl (upto n (img P z)) n=tl (img P z) n:=pR fun i hi=>gx hi
  have h':ah 1 99 (aA .u64 (upto n (img P z))) (tl (upto n (img P z)) n) w v:=h
  rw [e] at h'
  refine h'.to fun i w v hi h=>?_
  have:=aL (img P z) n
  have h2:v = .agg #[.int .u64 (upto n (img P z) i)]:=h
  show v = .agg #[.int .u64 (img P z i)]
  rw [h2,gx (by omega)]⟩,trivial⟩,trivial⟩
end
def fw (p:Nat) (c:Int) (a:Nat->Int) (k j:Nat):Int:=if j<k then a j*c % p else a j
theorem xp  (h:k<=j):fw p c a k j=a j:=if_neg (by omega)
theorem VW  (h:j≠k):fw p c a (k+1) j=fw p c a k j:=by
 unfold fw
 split <;> split <;> first | rfl | omega
theorem VX :fw p c a (k+1) k=a k*c % p:=if_pos (by omega)
def xq (a:Nat->Int) (c:Int) (la p:Nat) (s0:Option Addr) (n0 m0:Nat) (w0:World):List WP:=[iu w0 (.slice s0 n0 m0),Nu c,Nu ((p:Nat):Int),ah 1 99 (aA .u64 (fw p c a 0)) la,cw la,Nz la,ah 1 99 (aA .u64 (fw p c a la)) la,iu w0 (.slice s0 n0 m0)]
def VY (a:Nat->Int) (c:Int) (la p:Nat) (s0:Option Addr) (n0 m0:Nat) (w0:World) (j:Nat):List WP:=[Nz j,ah 1 99 (aA .u64 (fw p c a j)) la,fun _ _=>True,iu w0 (.slice s0 n0 m0),At 1,fun w v=>Ptr 1 (fun _ v=>v = .agg #[.int .u64 ((fw p c a j) j)]) w v,Nu ((fw p c a j) j),Nu (a j*c),Nu (a j*c % (p:Int)),At 1,fun w v=>Ptr 1 (fun _ v=>v = .agg #[.int .u64 ((fw p c a j) j)]) w v,ah 1 99 (aA .u64 (fw p c a (j+1))) la,Nz (j+1)]
def Ft:bf:=⟨[1,2,6,10],[(.slot 11,.i),(.two 0 9,.s)],[(.one 0,8),(.one 1,.bB [1] 9),(.one 1,.lo 1),(.one 1,11)],[.closed (.one (.ci .i64 0)),.frm 3,.frm 0,.frm 0],8,[(9,6),(11,7)]⟩
def Fu:List Step:=[bQ [8,5] oT (ak .lss),.base ⟨0,[9,8],[oP 13],.joint [1] 12 (aH 116)⟩,.base ⟨0,[13],[oK 14],.dd [1] (aI 99)⟩,bQ [14,1] [oK 15] (aD .mul),bQ [15,2] [oK 16] (aD .rem),.base ⟨0,[9,8],[oP 18],.joint [1] 17 (aH 116)⟩,.base ⟨0,[9,8,.any,16],[oS 19],.put [] 1 0 17 (dR 99 (.tmp 16) (.tmp 17))⟩,bQ [8,.lit (.ci .i64 1)] [oN 20] (ak .add)]
def VZ:List Step:=[bQ [8,5] oF (ak .lss)]
def Wa:List Step:=[.freed (.one (.s 0 0)) 3 4,bQ [4] [oN 5] (aC 116),.loop Ft [(Fu,[.frm 20,.frm 19,.frm 0,.frm 11])] VZ]
def Fv:List Out:=[oS 0,oK 1,oK 2]
theorem Wb  (hla:la<=1000000) (hp0:0<p) (ft:p<2147483648) (hc:0<=c∧c<p) (ha:∀j,0<=a j∧a j<p):xr (ph (xq a c la p s0 n0 m0 w0)) prog 100 Fv 3 [6] [oS 7] (.slice s0 n0 m0) w0:=Fw Fv [oS 7] 3 7 [6] Wa rfl func100 (by kernel_rfl) (cR (de (e:=99) (sz:=1) (n:=la) (F:=(aA .u64 (fw p c a 0))) ad rfl) (lB (ch (n:=la) underlying116 ad rfl) (bk (counted la (fun j=>ph (xq a c la p s0 n0 m0 w0 ++ VY a c la p s0 n0 m0 w0 j)) (fun _=>0) (fun j p hp=>bm (show p<(xq a c la p s0 n0 m0 w0).length from hp)) ⟨fun _=>rfl,ad,aP,ad,trivial⟩ (fun j hj=>by
   have h1:=ha j;have h2:=qy (a:=a j) (b:=c) (by omega) (by omega);have h3:=Int.emod_nonneg (a j*c) (b:=(p:Int)) (by omega)
   exact ⟨(Fu,[.frm 20,.frm 19,.frm 0,.frm 11]),rfl,⟨ad,ad,aP,ad,trivial⟩,(lB (bT ad ad) (lB (bW (i:=j) (sz:=1) (n:=la) (F:=(aA .u64 (fw p c a j))) underlying116 (fun _ _ h=>ah.arr h) ad rfl rfl) (lB (qz ad rfl) (lB (bF (op:=.mul) ad ad (jT (by rw [xp (Nat.le_refl _)]) (by rw [xp (Nat.le_refl _)];omega) (by omega) (by omega)) rfl) (lB (bF (op:=.rem) ad ad (eM rfl (by omega) (by omega)) rfl) (lB (bW (i:=j) (sz:=1) (n:=la) (F:=(aA .u64 (fw p c a j))) underlying116 (fun _ _ h=>ah.arr h) ad rfl rfl) (lB (xc (i:=j) (n:=la) (Z:=(fw p c a j)) (Z':=(fw p c a (j+1))) (.tmp 16) (.tmp 17) ad ad ad rfl (fun i h=>(VW h).symm) (VX.symm) rfl) (lB (ce ad rfl) au))))))))⟩) (lB (tlF ad ad) au)
   (fun q hq w v h=>by
    simp only [Ft,List.mem_cons,List.not_mem_nil,or_false] at hq
    rcases hq with rfl | rfl
    ·exact (fun h=>h) h
    ·exact (fun h=>h) h)) au)))
theorem Wc {i:Nat} (hp:0<p) (ha:∀j,0<=a j∧a j<p) (j:Nat):0<=dV p b n i a k j∧dV p b n i a k j<p:=by
 unfold dV
 split
 ·exact ⟨Int.emod_nonneg _ (by omega),Int.emod_lt_of_pos _ (by omega)⟩
 ·exact ha j
section
variable {P:Program}{Φ:PH}{p' q x:Nat}
theorem Wd {T e e':TypeId}{sz:Nat}{J:List Nat}{F:PH} (hT:P.underlying T=some (.slice e)) (hp:∀w v,Φ p w v->ah sz e' F n w v) (hp':∀w v,Φ p' w v->v = .slice s0 n0 m0) (hq:∀w v,Φ q w v->v = .int .i64 (m:Int)) (hx:Φ x=df s0 m0 sz F m) (hz:ee P e=some sz:=by kernel_rfl) (hm':m<=n:=by omega):aj Φ P ⟨0,[.parts (.one .s) [(0,0,p),(0,0,p')],.fact q],[oS x],.fR J (ec T)⟩:=fun X w ac o xs hX hm ha=>by
 have hrow:∀{w1:World}{v:Value},Φ p w1 v->Φ p' w1 v->df s0 m0 sz F n w1 v:=fun h1 h2=>by
  have h3:=hp' _ _ h2
  have h4:=(hp _ _ h1).rw
  refine ⟨?_,h4⟩
  obtain ⟨s,c,hv,_⟩:=h4
  rw [h3] at hv
  simp only [Value.slice.injEq] at hv
  rw [h3,hv.2.1]
 obtain ⟨u,w',h1,h2,h3⟩:=pQ (Φ:=ph [df s0 m0 sz F n,Ni (m:Int),df s0 m0 sz F m]) (p:=0) (q:=1) (x:=2) (m:=m) (n:=n) (F:=F) hT hz ad ad hm' rfl X w ac o xs hX hm (by
  match xs.map ac.eval,ha with
  | [v,u],ha=>exact ⟨fun w1 hw=>hrow (ha.1.2 (0,0,p) (by simp) w1 hw) (ha.1.2 (0,0,p') (by simp) w1 hw),fun w1 hw=>hq _ _ (ha.2.1 w1 hw),trivial⟩)
 exact ⟨u,w',h1,h2,cL h3.1.1 hx fun w1 hw=>h3.1.2 _ (List.mem_singleton.2 rfl) w1 hw⟩
end
def qG (a b:Nat->Int) (la n m p:Nat) (s0:Option Addr) (n0 m0:Nat) (w0:World):List WP:=[iu w0 (.slice s0 n0 m0),Rw 1 (aA .u64 b) (n+1),Nu ((p:Nat):Int),ah 1 99 (aA .u64 (bD p b n la a 0)) la,Nz (n+1),Nz n,cw la,Nz la,Ni (((la:Nat):Int)-1),ah 1 99 (aA .u64 (bD p b n la a m)) la,iu w0 (.slice s0 n0 m0),cw la,Nz la,Nz (min n la),df s0 m0 1 (aA .u64 (bD p b n la a m)) (min n la),df s0 m0 1 (aA .u64 (bD p b n la a m)) (tl (bD p b n la a m) (min n la))]
def We (a b:Nat->Int) (la n p:Nat) (s0:Option Addr) (n0 m0:Nat) (w0:World) (j k:Nat):List WP:=[Nz k,ah 1 99 (aA .u64 (dV p b n (la-1-j) (bD p b n la a j) k)) la,fun _ _=>True,iu w0 (.slice s0 n0 m0),fun w v=>Ptr 1 (fun _ v=>v = .agg #[.int .u64 (b k)]) w v,Nu (b k),Nz (la-1-j-n),Nz (la-1-j-n+k),Nz (la-1-j-n),Nz (la-1-j-n+k),At 1,fun w v=>Ptr 1 (fun _ v=>v = .agg #[.int .u64 ((dV p b n (la-1-j) (bD p b n la a j) k) (la-1-j-n+k))]) w v,Nu ((dV p b n (la-1-j) (bD p b n la a j) k) (la-1-j-n+k)),Nu (((p:Int)-bD p b n la a j (la-1-j))*b k),Nu (dV p b n (la-1-j) (bD p b n la a j) k (la-1-j-n+k)+((p:Int)-bD p b n la a j (la-1-j))*b k),Nu ((dV p b n (la-1-j) (bD p b n la a j) k (la-1-j-n+k)+((p:Int)-bD p b n la a j (la-1-j))*b k) % (p:Int)),At 1,fun w v=>Ptr 1 (fun _ v=>v = .agg #[.int .u64 ((dV p b n (la-1-j) (bD p b n la a j) k) (la-1-j-n+k))]) w v,ah 1 99 (aA .u64 (dV p b n (la-1-j) (bD p b n la a j) (k+1))) la,Nz (k+1)]
def Fx:bf:=⟨[1,2,6,7,8,9,12,13,14,15,16,17,18,19,20,23,24,25,26,27,28,29,30],[(.slot 31,.i),(.slot 0,.s)],[(.one 0,28),(.one 1,.bB [1] 29),(.one 1,.lo 1),(.one 1,31)],[.closed (.one (.ci .i64 0)),.frm 17,.frm 0,.frm 19],28,[(29,25),(31,26)]⟩
def Fy:List Step:=[bQ [28,24] oT (ak .lss),bQ [1,28] [oP 32] (aH 116),bQ [32] [oK 33] (aI 99),bQ [16,5] [oN 34] (ak .sub),bQ [34,28] [oN 35] (ak .add),bQ [16,5] [oN 36] (ak .sub),bQ [36,28] [oN 37] (ak .add),.base ⟨0,[29,37],[oP 39],.joint [1] 38 (aH 116)⟩,.base ⟨0,[39],[oK 40],.dd [1] (aI 99)⟩,bQ [23,33] [oK 41] (aD .mul),bQ [40,41] [oK 42] (aD .add),bQ [42,2] [oK 43] (aD .rem),.base ⟨0,[29,35],[oP 45],.joint [1] 44 (aH 116)⟩,.base ⟨0,[29,35,.any,43],[oS 46],.put [] 1 0 44 (dR 99 (.tmp 36) (.tmp 41))⟩,bQ [28,.lit (.ci .i64 1)] [oN 47] (ak .add)]
def Wf:List Step:=[bQ [28,24] oF (ak .lss)]
def xt (a b:Nat->Int) (la n p:Nat) (s0:Option Addr) (n0 m0:Nat) (w0:World) (j:Nat):List WP:=[Ni (((la:Nat):Int)-1-((j:Nat):Int)),ah 1 99 (aA .u64 (bD p b n la a j)) la,fun _ _=>True,iu w0 (.slice s0 n0 m0),At 1,fun w v=>Ptr 1 (fun _ v=>v = .agg #[.int .u64 ((bD p b n la a j) (la-1-j))]) w v,Nu ((bD p b n la a j) (la-1-j)),Nu ((p:Int)-bD p b n la a j (la-1-j)),Nz (n+1),ah 1 99 (aA .u64 (bD p b n la a (j+1))) la,iu w0 (.slice s0 n0 m0),Ni ((((la:Nat):Int)-1-((j:Nat):Int))-1)]
def FA:bf:=⟨[1,2,6,7,12,13,14,15,16,17],[(.slot 8,.i),(.slot 0,.s)],[(.one 0,16),(.one 1,.bB [1] 17),(.one 1,.lo 1),(.one 1,19)],[.frm 8,.frm 3,.frm 0,.frm 0],16,[(17,9),(19,10)]⟩
def FB:List Step:=[bQ [16,5] oT (ak .geq),.base ⟨0,[17,16],[oP 21],.joint [1] 20 (aH 116)⟩,.base ⟨0,[21],[oK 22],.dd [1] (aI 99)⟩,bQ [2,22] [oK 23] (aD .sub),bQ [1] [oN 24] (aC 116),.loop Fx [(Fy,[.frm 47,.frm 46,.frm 0,.frm 31])] Wf,bQ [16,.lit (.ci .i64 1)] [oN 27] (ak .sub)]
def Wg:List Step:=[bQ [16,5] oF (ak .geq)]
def Wh:List Step:=[bQ [1] [oN 4] (aC 116),bQ [4,.lit (.ci .i64 1)] [oN 5] (ak .sub),.freed (.one (.s 0 0)) 3 6,bQ [6] [oN 7] (aC 116),bQ [7,.lit (.ci .i64 1)] [oN 8] (ak .sub),.loop FA [(FB,[.frm 27,.frm 25,.frm 0,.frm 26])] Wg,.freed (.one (.s 10 1)) 9 11,bQ [11] [oN 12] (aC 116),bQ [5,12] [oN 13] (hO .min),.base ⟨0,[.parts (.one .s) [(0,0,9),(0,0,10)],13],[oS 14],.fR [1] (ec 116)⟩,.base ⟨120,[14],[oS 15],.cC [1] false⟩]
def FC:List Out:=[oS 0,oS 1,oK 2]
theorem Wi  (hla:la<=1000000) (hn:n<=1000000) (hm:m=la-n) (hp0:0<p) (ft:p<2147483648) (ha:∀j,0<=a j∧a j<p) (hb:∀j,0<=b j∧b j<p):xr (ph (qG a b la n m p s0 n0 m0 w0)) prog 119 FC 3 [9] [oS 15] (.slice s0 n0 m0) w0:=Fw FC [oS 15] 3 10 [9] Wh rfl func119 (by kernel_rfl) (lB (aJ (F:=(aA .u64 b)) underlying116 ad rfl) (lB (bO ad rfl) (cR (de (e:=99) (sz:=1) (n:=la) (F:=(aA .u64 (bD p b n la a 0))) ad rfl) (lB (ch (n:=la) underlying116 ad rfl) (lB (bO ad (hc:=(rfl)) rfl) (bk (counted m (fun j=>ph (qG a b la n m p s0 n0 m0 w0 ++ xt a b la n p s0 n0 m0 w0 j)) (fun _=>0) (fun j p hp=>bm (show p<(qG a b la n m p s0 n0 m0 w0).length from hp)) ⟨fun _ _ h=>h.trans (congrArg (Value.int .i64) (by omega)),ad,aP,ad,trivial⟩ (fun j hj=>by
   have h1:=pZ (b:=b) (n:=n) (l:=la) (a:=a) hp0 ha j (la-1-j)
   exact ⟨(FB,[.frm 27,.frm 25,.frm 0,.frm 26]),rfl,⟨fun _ _ h=>h.trans (congrArg (Value.int .i64) (by omega)),ad,aP,ad,trivial⟩,(lB (xu ad ad) (lB (bW (i:=(la-1-j)) (sz:=1) (n:=la) (F:=(aA .u64 (bD p b n la a j))) underlying116 (fun _ _ h=>ah.arr h) (fun _ _ h=>h.trans (congrArg (Value.int .i64) (by omega))) rfl rfl) (lB (qz ad rfl) (lB (bF (op:=.sub) ad ad (fg rfl (by omega) (by omega) (by omega)) rfl) (lB (aJ (F:=(aA .u64 b)) underlying116 ad rfl) (bk (counted (n+1) (fun k=>ph ((qG a b la n m p s0 n0 m0 w0 ++ xt a b la n p s0 n0 m0 w0 j) ++ We a b la n p s0 n0 m0 w0 j k)) (fun _=>0) (fun k p hp=>bm (show p<(qG a b la n m p s0 n0 m0 w0 ++ xt a b la n p s0 n0 m0 w0 j).length from hp)) ⟨fun _=>rfl,fun _ _ h=>ah.to (sz:=1) (e:=99) (n:=la) (F:=(aA .u64 (bD p b n la a j))) (G:=(aA .u64 (dV p b n (la-1-j) (bD p b n la a j) 0))) h fun i w v hi h=>by rw [aA,Pq];exact h,aP,ad,trivial⟩ (fun k hk=>by
   have h1:=pZ (b:=b) (n:=n) (l:=la) (a:=a) hp0 ha j (la-1-j);have h2:=qy (a:=(p:Int)-bD p b n la a j (la-1-j)) (b:=b k) ⟨by omega,by omega⟩ ⟨(hb k).1,by have:=(hb k).2;omega⟩;have h4:=Wc (b:=b) (n:=n) (i:=la-1-j) (k:=k) hp0 (pZ (b:=b) (n:=n) (l:=la) (a:=a) hp0 ha j) (la-1-j-n+k)
   exact ⟨(Fy,[.frm 47,.frm 46,.frm 0,.frm 31]),rfl,⟨ad,ad,aP,ad,trivial⟩,(lB (bT ad ad) (lB (bz (i:=k) (F:=(aA .u64 b)) underlying116 ad ad rfl) (lB (ir ad rfl) (lB (lD ad ad rfl) (lB (fj ad ad rfl) (lB (lD ad ad rfl) (lB (fj ad ad rfl) (lB (bW (i:=(la-1-j-n+k)) (sz:=1) (n:=la) (F:=(aA .u64 (dV p b n (la-1-j) (bD p b n la a j) k))) underlying116 (fun _ _ h=>ah.arr h) ad rfl rfl) (lB (qz ad rfl) (lB (bF (op:=.mul) ad ad (jT rfl (by omega) (hb k).1 (by omega)) rfl) (lB (bF (op:=.add) ad ad (mT rfl (by omega) (by omega) (by omega)) rfl) (lB (bF (op:=.rem) ad ad (eM rfl (by omega) (by omega)) rfl) (lB (bW (i:=(la-1-j-n+k)) (sz:=1) (n:=la) (F:=(aA .u64 (dV p b n (la-1-j) (bD p b n la a j) k))) underlying116 (fun _ _ h=>ah.arr h) ad rfl rfl) (lB (xc (i:=(la-1-j-n+k)) (n:=la) (Z:=(dV p b n (la-1-j) (bD p b n la a j) k)) (Z':=(dV p b n (la-1-j) (bD p b n la a j) (k+1))) (.tmp 36) (.tmp 41) ad ad ad rfl (fun i h=>(Pr h).symm) (Ps) rfl) (lB (ce ad rfl) au)))))))))))))))⟩) (lB (tlF ad ad) au)
   (fun q hq w v h=>by
    simp only [Fx,List.mem_cons,List.not_mem_nil,or_false] at hq
    rcases hq with rfl | rfl
    ·exact (fun h=>by have h':ah 1 99 (aA .u64 (dV p b n (la-1-j) (bD p b n la a j) (n+1))) la w v:=h;rw [Pt] at h';exact h') h
    ·exact (fun h=>h) h)) (lB (bO ad (hc:=(rfl)) rfl) au)))))))⟩) (lB (thF ad ad) au)
   (fun q hq w v h=>by
    simp only [FA,List.mem_cons,List.not_mem_nil,or_false] at hq
    rcases hq with rfl | rfl
    ·exact (fun h=>h) h
    ·exact (fun h=>h) h)) (cR (de (e:=99) (sz:=1) (n:=la) (F:=(aA .u64 (bD p b n la a m))) ad rfl) (lB (ch (n:=la) underlying116 ad rfl) (lB (AP ad ad (by split <;> omega) rfl) (lB (Wd (m:=(min n la)) (n:=la) (F:=(aA .u64 (bD p b n la a m))) underlying116 ad (fun _ _ h=>h.1) ad rfl) (lB (cS [1] (Fq (z:=(bD p b n la a m)) (n:=(min n la)) ad rfl (by omega))) au)))))))))))
theorem oM {a:Int} (h0:-9223372036854775808<=a:=by omega) (h1:a<=9223372036854775807:=by omega):IntKind.i64.wrap a=a:=IntWalk.i64_in _ ⟨h0,h1⟩
def Wj (x:Int) (p:Nat):List WP:=[Nu x,Nu ((p:Nat):Int),Nu ((p:Int) / 2),Ni x,Nz p,Ni (x-(p:Int)),Nw (x-(p:Int)) 2]
def Wk:List Step:=[bQ [1,.lit (.ci .u64 2)] [oK 2] (aD .quo),bQ [0,2] oT (aD .gtr),bQ [0] [oN 3] (iq 99 3),bQ [1] [oN 4] (iq 99 3),bQ [3,4] [oN 5] (ak .sub),.base ⟨54,[5],[oI 6],false⟩]
def Wm:List Out:=[oK 0,oK 1]
theorem Wn  (hx0:0<=x) (hxp:x<p) (hp0:0<p) (ft:p<2147483648) (hx:(p:Int) / 2<x):aj (ph (Wj x p)) prog ⟨121,[0,1],[oI 6],false⟩:=aV Wm [oI 6] Wk func121 (by kernel_rfl) (lB (cG (op:=.quo) ad (jU rfl (by omega) (by omega) (by omega)) rfl) (lB (kU (op:=.gtr) ad ad (cA (decide_eq_true (by omega)) (by simp))) (lB (oH underlying3 ad (oM) rfl) (lB (oH underlying3 ad (oM) rfl) (lB (lD ad ad (hc:=(rfl)) rfl) (lB (mW ad rfl rfl) au))))))
  (aK [.fact 0 (.one (.nk)),.fact 1 (.one (.nk))] ⟨fun _ _ h=>h▸cJ _ _,fun _ _ h=>h▸cJ _ _,trivial⟩) (fun _ _ _ h=>h)
def Wo (x:Int) (p:Nat):List WP:=[Nu x,Nu ((p:Nat):Int),Nu ((p:Int) / 2),Ni x,Nw x 2]
def Wp:List Step:=[bQ [1,.lit (.ci .u64 2)] [oK 2] (aD .quo),bQ [0,2] oF (aD .gtr),bQ [0] [oN 3] (iq 99 3),.base ⟨54,[3],[oI 4],false⟩]
def Wq:List Out:=[oK 0,oK 1]
theorem Ws  (hx0:0<=x) (hxp:x<p) (hp0:0<p) (ft:p<2147483648) (hx:¬(p:Int) / 2<x):aj (ph (Wo x p)) prog ⟨121,[0,1],[oI 4],false⟩:=aV Wq [oI 4] Wp func121 (by kernel_rfl) (lB (cG (op:=.quo) ad (jU rfl (by omega) (by omega) (by omega)) rfl) (lB (kU (op:=.gtr) ad ad (cA (decide_eq_false (by omega)) (by simp))) (lB (oH underlying3 ad (oM) rfl) (lB (mW ad rfl rfl) au))))
  (aK [.fact 0 (.one (.nk)),.fact 1 (.one (.nk))] ⟨fun _ _ h=>h▸cJ _ _,fun _ _ h=>h▸cJ _ _,trivial⟩) (fun _ _ _ h=>h)
section
variable {Φ:PH}{q y P:Nat}
theorem xw (hp:∀w v,Φ p w v->v = .int .u64 x) (hq:∀w v,Φ q w v->v = .int .u64 ((P:Nat):Int)) (hy:Φ y=Nw (bM P x) 2) (hx0:0<=x) (hxp:x<P) (hP:0<P:=by omega) (eh:P<2147483648:=by omega):aj Φ prog ⟨121,[.fact p,.fact q],[oI y],false⟩:=by
 by_cases h:(P:Int) / 2<x
 ·exact aW (Wn hx0 hxp hP eh h) ⟨hp,hq,trivial⟩ ⟨⟨rfl,⟨rfl,rfl,fun _ _ h'=>by rw [hy,bM,if_pos h];exact h'⟩,trivial⟩,trivial⟩
 ·exact aW (Ws hx0 hxp hP eh h) ⟨hp,hq,trivial⟩ ⟨⟨rfl,⟨rfl,rfl,fun _ _ h'=>by rw [hy,bM,if_neg h];exact h'⟩,trivial⟩,trivial⟩
end
theorem qH  (hp:1<p):0<=ct p x∧ct p x<p:=by
 unfold ct
 have:=Nat.mod_lt (x.toNat ^ (p-2)) (show 0<p by omega)
 omega
theorem Wt {l:Nat} (hp:1<p) (i:Nat):0<=gA p b l i∧gA p b l i<p:=jh (by omega) _ _ i
theorem FD {s:Option Addr}{c:Nat}:blk (.slice s n c)=blk (.slice s m c):=by cases s <;> rfl
section
variable {Φ:PH}{q r s x y lb P:Nat}{S:Nat->Prop}
theorem qI {Z:Nat->Int}{k:IntKind}:∀(i:Nat) (w w1:World) (v:Value),Kp w w1->aA k Z i w v->aA k Z i w1 v:=fun _ _ _ _ _ h=>h
theorem xy {js:List Nat} (_hjs:js ≠ []) (hp:∀w v,Φ p w v->ah 1 99 (aA .u64 a) la w v) (hs:∀w v,Φ s w v->gm S w v) (hq:∀w v,Φ q w v->v = .int .u64 c) (hr:∀w v,Φ r w v->v = .int .u64 ((P:Nat):Int)) (hx:Φ x=ah 1 99 (aA .u64 (scl P c a)) la) (hy:Φ y=gm S)
  (hla:la<=1000000) (hP:0<P) (eh:P<2147483648) (hc:0<=c∧c<P) (ha:∀j,0<=a j∧a j<P):aj Φ prog ⟨100,[.parts (.one .s) [(0,0,p),(0,0,s)],.fact q,.fact r],[⟨.one .s,[(0,0,x),(0,0,y)]⟩],.cV js js [(js,js),([],[]),([],[])] false⟩:=fun X L W0 w vs hgr hX hL hLX hone hag=>by
 match vs,hag with
 | [v,u1,u2],hag=>
  obtain ⟨⟨⟨hsh,hv⟩,hlo⟩,⟨h1,-⟩,⟨h2,-⟩,-⟩:=hag
  have hA:∀w1,Off (fun k=>X k∨∃j,j ∈ js∧j ∉ js∧L j k) w w1->ah 1 99 (aA .u64 a) la w1 v:=fun w1 hw=>hp _ _ (hv (0,0,p) (by simp) w1 hw)
  have hI:gm S w v:=hs _ _ (hv (0,0,s) (by simp) w (Off.refl _ _))
  have hA0:=hA w (Off.refl _ _)
  obtain ⟨s0,c0,rfl,_⟩:=hA0.rw
  have iw:=hlo _hjs
  refine (Wb (s0:=s0) (n0:=la) (m0:=c0) (w0:=w) hla hP eh hc ha W0 [.slice s0 la c0,u1,u2] rfl hgr ⟨⟨⟨⟨_,_,_,rfl⟩,fun _ h=>by cases h⟩,fun c' hc' w1 hw=>?_⟩,⟨?_,fun c' hc' w1 hw=>?_⟩,⟨?_,fun c' hc' w1 hw=>?_⟩,trivial⟩ (fun g hg=>?_) (fun w1 hk hh=>?_)).mono fun e w' ⟨u,he,kV,hkp,ho,hqs⟩=>?_
  ·rw [List.mem_singleton.1 hc']
   exact iu.off hw
  ·rw [hq _ _ (h1 w (Off.refl _ _))];exact cJ _ _
  ·rw [List.mem_singleton.1 hc']
   exact hq _ _ (h1 w (Off.refl _ _))
  ·rw [hr _ _ (h2 w (Off.refl _ _))];exact cJ _ _
  ·rw [List.mem_singleton.1 hc']
   exact hr _ _ (h2 w (Off.refl _ _))
  ·obtain ⟨j,_,hj⟩:=iw g hg
   exact hL j g hj
  ·have h:=ah.off (X:=fun _=>False) qI hA0 ⟨hk,fun k hk' _=>hh k hk'⟩ (fun _ _ x=>x)
   exact h.to fun i w v hi h=>by rw [aA,xp (Nat.zero_le _)];exact h
  ·have hu:u = .slice s0 la c0:=(ho.1.2 _ (List.mem_singleton.2 rfl) w' (Off.refl _ _)).1
   subst hu
   have hres:ah 1 99 (aA .u64 (fw P c a la)) la w' (.slice s0 la c0):=hqs _ (List.mem_singleton.2 rfl)
   have hres':ah 1 99 (aA .u64 (scl P c a)) la w' (.slice s0 la c0):=hres.to fun i w v hi h=>by
    rw [aA,fw,if_pos hi] at h
    exact h
   refine ⟨[.slice s0 la c0],he,⟨⟨kV.os,kV.tape,kV.output⟩,hkp,fun k hk hn=>kV.block k hk fun e=>?_⟩,⟨⟨⟨⟨_,_,_,rfl⟩,fun _ h=>by cases h⟩,fun r hr w1 hw=>?_⟩,trivial⟩,fun u hu g hg=>?_⟩
   ·obtain ⟨j,h1,h2⟩:=iw k e.symm
    exact hn ⟨j,h1,h2⟩
   ·simp only [List.mem_cons,List.not_mem_nil,or_false] at hr
    rcases hr with rfl | rfl
    ·show Φ x w1 _
     rw [hx]
     refine ah.off qI hres' hw fun g hg h=>?_
     obtain ⟨j,h1,h2⟩:=iw g hg
     rcases h with h | ⟨i,h3,h4,h5⟩
     ·exact hLX j g h1 h2 h
     ·exact h4 h3
    ·show Φ y w1 _
     rw [hy]
     exact hI
   ·obtain rfl:Value.slice s0 la c0=u:=Option.some.inj hu
    exact iw g hg
theorem Wu {ja jb:Nat} (hp:∀w v,Φ p w v->ah 1 99 (aA .u64 a) la w v) (hs:∀w v,Φ s w v->gm S w v) (hq:∀w v,Φ q w v->Rw 1 (aA .u64 b) lb w v) (hr:∀w v,Φ r w v->v = .int .u64 ((P:Nat):Int)) (hx:Φ x=ah 1 99 (aA .u64 (bD P b (lb-1) la a (la-(lb-1)))) (tl (bD P b (lb-1) la a (la-(lb-1))) (min (lb-1) la))) (hy:Φ y=gm S)
  (ha:∀j,0<=a j∧a j<P) (hb:∀j,0<=b j∧b j<P) (hab:ja≠jb:=by decide) (hla:la<=1000000:=by omega) (hlb:lb<=1000000:=by omega) (me:0<lb:=by omega) (hP:0<P:=by omega) (eh:P<2147483648:=by omega):aj Φ prog ⟨119,[.parts (.one .s) [(0,0,p),(0,0,s)],.fact q,.fact r],[⟨.one .s,[(0,0,x),(0,0,y)]⟩],.cV [ja,jb] [ja] [([ja],[ja]),([jb],[]),([],[])] false⟩:=fun X L W0 w vs hgr hX hL hLX hone hag=>by
 match vs,hag with
 | [v,u1,u2],hag=>
  obtain ⟨⟨⟨hsh,hv⟩,hlo⟩,⟨h1,-⟩,⟨h2,-⟩,-⟩:=hag
  have hA0:ah 1 99 (aA .u64 a) la w v:=hp _ _ (hv (0,0,p) (by simp) w (Off.refl _ _))
  have hI:gm S w v:=hs _ _ (hv (0,0,s) (by simp) w (Off.refl _ _))
  obtain ⟨s0,c0,rfl,_⟩:=hA0.rw
  have iw:∀g,blk (.slice s0 la c0)=some g->L ja g:=fun g hg=>by
   obtain ⟨j,h3,h4⟩:=hlo (by simp) g hg
   rw [List.mem_singleton.1 h3] at h4
   exact h4
  have hB:∀w1,Off (fun k=>blk (.slice s0 la c0)=some k) w w1->Rw 1 (aA .u64 b) (lb-1+1) w1 u1:=fun w1 hw=>by
   rw [show lb-1+1=lb by omega]
   refine hq _ _ (h1 w1 (hw.wide fun k hk=>.inr ⟨ja,List.mem_cons_self ..,fun h=>?_,iw k hk⟩))
   exact hab (List.mem_singleton.1 h)
  refine (Wi (s0:=s0) (n0:=la) (m0:=c0) (w0:=w) (n:=lb-1) (m:=la-(lb-1)) hla (by omega) rfl hP eh ha hb W0 [.slice s0 la c0,u1,u2] rfl hgr ⟨⟨⟨⟨_,_,_,rfl⟩,fun _ h=>by cases h⟩,fun c' hc' w1 hw=>?_⟩,⟨Rw.is (hB w (Off.refl _ _)),fun c' hc' w1 hw=>?_⟩,⟨?_,fun c' hc' w1 hw=>?_⟩,trivial⟩ (fun g hg=>?_) (fun w1 hk hh=>?_)).mono fun e w' ⟨u,he,kV,hkp,ho,hqs⟩=>?_
  ·rw [List.mem_singleton.1 hc']
   exact iu.off hw
  ·rw [List.mem_singleton.1 hc']
   exact hB w1 hw
  ·rw [hr _ _ (h2 w (Off.refl _ _))];exact cJ _ _
  ·rw [List.mem_singleton.1 hc']
   exact hr _ _ (h2 w (Off.refl _ _))
  ·exact hL ja g (iw g hg)
  ·exact ah.off (X:=fun _=>False) qI hA0 ⟨hk,fun k hk' _=>hh k hk'⟩ (fun _ _ x=>x)
  ·obtain ⟨hu,-⟩:u = .slice s0 (tl (bD P b (lb-1) la a (la-(lb-1))) (min (lb-1) la)) c0∧_:=ho.1.2 _ (List.mem_singleton.2 rfl) w' (Off.refl _ _)
   subst hu
   have hres:ah 1 99 (aA .u64 (bD P b (lb-1) la a (la-(lb-1)))) la w' (.slice s0 la c0):=hqs _ (List.mem_singleton.2 rfl)
   have hres':=hres.take (m:=tl (bD P b (lb-1) la a (la-(lb-1))) (min (lb-1) la)) (by
    have:=aL (bD P b (lb-1) la a (la-(lb-1))) (min (lb-1) la)
    omega)
   have hb':∀g,blk (.slice s0 (tl (bD P b (lb-1) la a (la-(lb-1))) (min (lb-1) la)) c0)=some g->L ja g:=fun g hg=>iw g (by rw [FD];exact hg)
   refine ⟨[_],he,⟨⟨kV.os,kV.tape,kV.output⟩,hkp,fun k hk hn=>kV.block k hk fun e=>hn ⟨ja,List.mem_singleton.2 rfl,iw k e.symm⟩⟩,⟨⟨⟨⟨_,_,_,rfl⟩,fun _ h=>by cases h⟩,fun r hr w1 hw=>?_⟩,trivial⟩,fun u hu g hg=>?_⟩
   ·simp only [List.mem_cons,List.not_mem_nil,or_false] at hr
    rcases hr with rfl | rfl
    ·show Φ x w1 _
     rw [hx]
     refine ah.off qI hres' hw fun g hg h=>?_
     have h3:=hb' g hg
     rcases h with h | ⟨i,h4,h5,h6⟩
     ·exact hLX ja g (List.mem_cons_self ..) h3 h
     ·exact h5 (List.mem_singleton.2 (hone i ja g h6 h3))
    ·show Φ y w1 _
     rw [hy]
     exact fun g hg=>hI g (by rw [FD];exact hg)
   ·obtain rfl:=Option.some.inj hu
    exact ⟨ja,List.mem_singleton.2 rfl,hb' g hg⟩
end
def xz (a b:Nat->Int) (la lb J p:Nat) (S:Nat->Prop) (w0:World):List WP:=[ah 1 99 (aA .u64 a) la,gm S,ah 1 99 (aA .u64 b) lb,gm S,Nu ((p:Nat):Int),FG w0 S,ah 1 99 (aA .u64 ((euS p a la b lb J).1.1)) ((euS p a la b lb J).1.2),gm S,cw ((euS p a la b lb J).1.2),Ni (((euS p a la b lb J).1.2:Nat):Int),Ni (((euS p a la b lb J).1.2-1:Nat):Int),At 1,fun w v=>Ptr 1 (fun _ v=>v = .agg #[.int .u64 ((euS p a la b lb J).1.1 ((euS p a la b lb J).1.2-1))]) w v,Nu ((euS p a la b lb J).1.1 ((euS p a la b lb J).1.2-1)),Nu (ct p ((euS p a la b lb J).1.1 ((euS p a la b lb J).1.2-1))),ah 1 99 (aA .u64 (scl p (ct p ((euS p a la b lb J).1.1 ((euS p a la b lb J).1.2-1))) ((euS p a la b lb J).1.1))) ((euS p a la b lb J).1.2),gm S]
def Wv (a b:Nat->Int) (la lb p:Nat) (S:Nat->Prop) (j:Nat):List WP:=[ah 1 99 (aA .u64 ((euS p a la b lb j).1.1)) ((euS p a la b lb j).1.2),gm S,fun _ _=>True,ah 1 99 (aA .u64 ((euS p a la b lb j).2.1)) ((euS p a la b lb j).2.2),gm S,fun _ _=>True,cw ((euS p a la b lb j).2.2),Ni (((euS p a la b lb j).2.2:Nat):Int),Ni (((euS p a la b lb j).2.2:Nat):Int),Ni (((euS p a la b lb j).2.2-1:Nat):Int),At 1,fun w v=>Ptr 1 (fun _ v=>v = .agg #[.int .u64 ((euS p a la b lb j).2.1 ((euS p a la b lb j).2.2-1))]) w v,Nu ((euS p a la b lb j).2.1 ((euS p a la b lb j).2.2-1)),Nu (ct p ((euS p a la b lb j).2.1 ((euS p a la b lb j).2.2-1))),ah 1 99 (aA .u64 (scl p (ct p ((euS p a la b lb j).2.1 ((euS p a la b lb j).2.2-1))) ((euS p a la b lb j).2.1))) ((euS p a la b lb j).2.2),gm S,ah 1 99 (aA .u64 (bD p (scl p (ct p ((euS p a la b lb j).2.1 ((euS p a la b lb j).2.2-1))) ((euS p a la b lb j).2.1)) ((euS p a la b lb j).2.2-1) ((euS p a la b lb j).1.2) ((euS p a la b lb j).1.1) ((euS p a la b lb j).1.2-((euS p a la b lb j).2.2-1)))) (tl (bD p (scl p (ct p ((euS p a la b lb j).2.1 ((euS p a la b lb j).2.2-1))) ((euS p a la b lb j).2.1)) ((euS p a la b lb j).2.2-1) ((euS p a la b lb j).1.2) ((euS p a la b lb j).1.1) ((euS p a la b lb j).1.2-((euS p a la b lb j).2.2-1))) (min ((euS p a la b lb j).2.2-1) ((euS p a la b lb j).1.2))),gm S,cw ((euS p a la b lb j).2.2),Ni (((euS p a la b lb j).2.2:Nat):Int)]
def FH:bf:=⟨[2,6],[(.slot 0,.s),(.slot 1,.s)],[(.one 0,.bB [2] 17),(.one 0,.bB [2] 18),(.one 0,.lo 2),(.one 1,.bB [3] 20),(.one 1,.bB [3] 21),(.one 1,.lo 3)],[.frm 0,.frm 1,.frm 0,.frm 2,.frm 3,.frm 0],17,[(17,6),(18,7)]⟩
def FI:List Step:=[.freed (.one (.s 2 1)) 20 23,bQ [23] [oN 24] (aC 116),bQ [24,.lit (.ci .i64 0)] oT (ak .gtr),bQ [23] [oN 25] (aC 116),bQ [25,.lit (.ci .i64 1)] [oN 26] (ak .sub),.base ⟨0,[20,26],[oP 28],.joint [3] 27 (aH 116)⟩,.base ⟨0,[28],[oK 29],.dd [3] (aI 99)⟩,.base ⟨118,[29,4],[oK 30],false⟩,.base ⟨100,[.parts (.one .s) [(0,0,20),(0,0,21)],30,4],[⟨.one (.s),[(0,0,31),(0,0,32)]⟩],.cV [3] [3] [([3],[3]),([],[]),([],[])] false⟩,.swap 2 3,.base ⟨119,[.parts (.one .s) [(0,0,17),(0,0,18)],31,4],[⟨.one (.s),[(0,0,33),(0,0,34)]⟩],.cV [3,2] [3] [([3],[3]),([2],[]),([],[])] false⟩]
def Ww:List Step:=[.freed (.one (.s 2 1)) 20 35,bQ [35] [oN 36] (aC 116),bQ [36,.lit (.ci .i64 0)] oF (ak .gtr)]
def Wx:List Step:=[.loop FH [(FI,[.frm 31,.frm 32,.frm 0,.frm 33,.frm 34,.frm 0])] Ww,.freed (.one (.s 2 0)) 6 8,bQ [8] [oN 9] (aC 116),bQ [9,.lit (.ci .i64 1)] [oN 10] (ak .sub),.base ⟨0,[6,10],[oP 12],.joint [2] 11 (aH 116)⟩,.base ⟨0,[12],[oK 13],.dd [2] (aI 99)⟩,.base ⟨118,[13,4],[oK 14],false⟩,.base ⟨100,[.parts (.one .s) [(0,0,6),(0,0,7)],14,4],[⟨.one (.s),[(0,0,15),(0,0,16)]⟩],.cV [2] [2] [([2],[2]),([],[]),([],[])] false⟩]
def FJ:List Out:=[⟨.one (.s),[(0,0,0),(0,0,1)]⟩,⟨.one (.s),[(0,0,2),(0,0,3)]⟩,oK 4]
theorem Wy {lb J:Nat}{S:Nat->Prop} (hp0:1<p) (ft:p<2147483648) (hS:∀j,j<=J->(∀i,0<=(euS p a la b lb j).1.1 i∧(euS p a la b lb j).1.1 i<p)∧(∀i,0<=(euS p a la b lb j).2.1 i∧(euS p a la b lb j).2.1 i<p)∧(euS p a la b lb j).1.2<=1000000∧(euS p a la b lb j).2.2<=1000000) (hJ:∀j,j<J->0<(euS p a la b lb j).2.2) (hJ0:(euS p a la b lb J).2.2=0) (hJl:0<(euS p a la b lb J).1.2):FK (ph (xz a b la lb J p S w0)) prog 97 FJ [([2],[2]),([3],[3]),([],[])] [⟨.one (.s),[(0,0,15),(0,0,16)]⟩] S w0:=by
 have hr:=hS J (Nat.le_refl _);have hv:=hr.1 ((euS p a la b lb J).1.2-1);have hi:=qH (x:=(euS p a la b lb J).1.1 ((euS p a la b lb J).1.2-1)) hp0
 exact Wz FJ [([2],[2]),([3],[3]),([],[])] [⟨.one (.s),[(0,0,15),(0,0,16)]⟩] 5 Wx rfl func97 (by kernel_rfl) (bk (counted J (fun j=>ph (xz a b la lb J p S w0 ++ Wv a b la lb p S j)) (fun _=>0) (fun j p hp=>bm (show p<(xz a b la lb J p S w0).length from hp)) ⟨ad,ad,aP,ad,ad,aP,trivial⟩ (fun j hj=>by
   have hr:=hS j (by omega);have hlb:=hJ j hj;have hB:=Wt (b:=(euS p a la b lb j).2.1) (l:=(euS p a la b lb j).2.2) hp0;have hv:=hr.2.1 ((euS p a la b lb j).2.2-1);have hi:=qH (x:=(euS p a la b lb j).2.1 ((euS p a la b lb j).2.2-1)) hp0
   exact ⟨(FI,[.frm 31,.frm 32,.frm 0,.frm 33,.frm 34,.frm 0]),rfl,⟨ad,ad,aP,ad,ad,aP,trivial⟩,(cR (de (e:=99) (sz:=1) (n:=(euS p a la b lb j).2.2) (F:=(aA .u64 ((euS p a la b lb j).2.1))) ad rfl) (lB (ch (n:=(euS p a la b lb j).2.2) underlying116 ad rfl) (lB (eX ad) (lB (ch (n:=(euS p a la b lb j).2.2) underlying116 ad rfl) (lB (bO ad rfl) (lB (bW (i:=((euS p a la b lb j).2.2-1)) (sz:=1) (n:=(euS p a la b lb j).2.2) (F:=(aA .u64 ((euS p a la b lb j).2.1))) underlying116 (fun _ _ h=>ah.arr h) ad rfl rfl) (lB (qz ad rfl) (lB (qC (P:=p) (a:=((euS p a la b lb j).2.1 ((euS p a la b lb j).2.2-1))) ad ad rfl hv.1 (by omega)) (lB (xy (P:=p) (S:=S) (a:=(euS p a la b lb j).2.1) (c:=(ct p ((euS p a la b lb j).2.1 ((euS p a la b lb j).2.2-1)))) (la:=(euS p a la b lb j).2.2) (by decide) ad ad ad ad rfl rfl (by omega) (by omega) (by omega) ⟨hi.1,hi.2⟩ hr.2.1) (FL (lB (Wu (P:=p) (S:=S) (a:=(euS p a la b lb j).1.1) (b:=(scl p (ct p ((euS p a la b lb j).2.1 ((euS p a la b lb j).2.2-1))) ((euS p a la b lb j).2.1))) (la:=(euS p a la b lb j).1.2) (lb:=(euS p a la b lb j).2.2) ad ad (fun _ _ h=>ah.rw h) ad rfl rfl hr.1 hB) au)))))))))))⟩) (cR (de (e:=99) (sz:=1) (n:=(euS p a la b lb (J)).2.2) (F:=(aA .u64 ((euS p a la b lb (J)).2.1))) ad rfl) (lB (ch (n:=(euS p a la b lb (J)).2.2) underlying116 ad rfl) (lB (kC ad) au)))
   (fun q hq w v h=>by
    simp only [FH,List.mem_cons,List.not_mem_nil,or_false] at hq
    rcases hq with rfl | rfl
    ·exact (fun h=>h) h
    ·exact (fun h=>h) h)) (cR (de (e:=99) (sz:=1) (n:=(euS p a la b lb J).1.2) (F:=(aA .u64 ((euS p a la b lb J).1.1))) ad rfl) (lB (ch (n:=(euS p a la b lb J).1.2) underlying116 ad rfl) (lB (bO ad rfl) (lB (bW (i:=((euS p a la b lb J).1.2-1)) (sz:=1) (n:=(euS p a la b lb J).1.2) (F:=(aA .u64 ((euS p a la b lb J).1.1))) underlying116 (fun _ _ h=>ah.arr h) ad rfl rfl) (lB (qz ad rfl) (lB (qC (P:=p) (a:=((euS p a la b lb J).1.1 ((euS p a la b lb J).1.2-1))) ad ad rfl hv.1 (by omega)) (lB (xy (P:=p) (S:=S) (a:=(euS p a la b lb J).1.1) (c:=(ct p ((euS p a la b lb J).1.1 ((euS p a la b lb J).1.2-1)))) (la:=(euS p a la b lb J).1.2) (by decide) ad ad ad ad rfl rfl (by omega) (by omega) (by omega) ⟨hi.1,hi.2⟩ hr.1) au))))))))
end Go.Proofs.YtomamliepbhegaaGreat.Sym
