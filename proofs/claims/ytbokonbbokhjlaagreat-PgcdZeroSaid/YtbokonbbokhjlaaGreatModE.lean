/- A number's residue, limb by limb from the top. Residues, and rows of them. scaled and remainder as calls that write to groups of blocks; euclid. -/
import Derived.Test.YtbokonbbokhjlaaGreatGauC
import Derived.Test.YtbokonbbokhjlaaGreatBx
import Derived.Test.YtbokonbbokhjlaaGreatModC
import Derived.Test.YtbokonbbokhjlaaGreatDivX
set_option maxRecDepth 100000
namespace Go.Proofs.YtbokonbbokhjlaaGreat.Sym
open Go.RowKit
def cf (p:Nat) (xs:List Nat):Nat->Nat
 | 0=>0
 | j+1=>(cf p xs j*4294967296+xs.getD (xs.length-1-j) 0) % p
theorem lw {p:Nat} (hp:0<p) (xs:List Nat):∀j,cf p xs j<p
 | 0=>hp
 | _+1=>Nat.mod_lt _ hp
theorem Bc (p x:Nat) (xs:List Nat):∀j,j<=xs.length->cf p (x :: xs) j=cf p xs j
 | 0,_=>rfl
 | j+1,h=>by
  rw [cf,cf,Bc p x xs j (by omega),List.length_cons,show xs.length+1-1-j=(xs.length-1-j)+1 by omega,List.getD_cons_succ]
theorem Be (p:Nat):∀xs:List Nat,cf p xs xs.length % p=Proofs.YtbokonbbokhjlaaGreat.val 4294967296 xs % p
 | []=>by simp [cf,Proofs.YtbokonbbokhjlaaGreat.val]
 | x :: xs=>by
  rw [List.length_cons,cf,Bc p x xs _ (Nat.le_refl _),List.length_cons,show xs.length+1-1-xs.length=0 by omega,List.getD_cons_zero,Nat.mod_mod,Nat.add_mod,Nat.mul_mod,Be p xs,<- Nat.mul_mod,<- Nat.add_mod,Proofs.YtbokonbbokhjlaaGreat.val,Nat.mul_comm,Nat.add_comm]
theorem NX {p:Nat} (hp:0<p) (xs:List Nat) (b:Bool):(if b=true∧0<cf p xs xs.length then ((p-cf p xs xs.length:Nat):Int) else (cf p xs xs.length:Int))=sg b (Proofs.YtbokonbbokhjlaaGreat.val 4294967296 xs) % p:=by
 have h1:=Be p xs
 have h2:=lw hp xs xs.length
 rw [Nat.mod_eq_of_lt h2] at h1
 rw [h1]
 have h3:=Nat.mod_lt (Proofs.YtbokonbbokhjlaaGreat.val 4294967296 xs) hp
 generalize Proofs.YtbokonbbokhjlaaGreat.val 4294967296 xs=X at *
 cases b
 ·rw [if_neg (by simp)]
  exact Int.natCast_emod X p
 ·show _=(-(X:Int)) % p
  have h5:(X:Int)=p*((X / p:Nat):Int)+((X % p:Nat):Int):=by
   rw [<- Int.natCast_mul,<- Int.natCast_add,Nat.div_add_mod]
  generalize X / p=q at *
  generalize X % p=r at *
  by_cases h4:0<r
  ·rw [if_pos ⟨rfl,h4⟩,show -(X:Int)=((p-r:Nat):Int)+p*(-(q:Int)-1) by rw [Int.mul_sub,Int.mul_neg];omega,Int.add_mul_emod_self_left,Int.emod_eq_of_lt (by omega) (by omega)]
  ·rw [if_neg fun h=>h4 h.2,show -(X:Int)=0+p*(-(q:Int)) by rw [Int.mul_neg];omega,Int.add_mul_emod_self_left,Int.zero_emod]
   omega
abbrev lmb (xs:List Nat):Nat->Int:=fun i=>((xs.getD i 0:Nat):Int)
theorem qM {xs:List Nat} (h:All 4294967296 xs) (i:Nat):xs.getD i 0<4294967296:=bn (by omega) h i
theorem up {xs:List Nat} (h:All 4294967296 xs) (i:Nat):0<=lmb xs i∧lmb xs i<4294967296:=by
 have:=qM h i
 show 0<=((xs.getD i 0:Nat):Int)∧((xs.getD i 0:Nat):Int)<4294967296
 omega
theorem cH.lim {w:World}{v:Value}{b:Bool}{xs:List Nat} (h:cH w v b xs):Rw 1 (au .u32 (lmb xs)) xs.length w (bi 1 1 v):=by
 obtain ⟨s,rfl,h1,-⟩:=h
 exact MH h1
def uq (xs:List Nat) (p:Nat):List WP:=[fun w v=>cH w v false xs,Rw 1 (au .u32 (lmb xs)) xs.length,Nu ((p:Nat):Int),Ni ((xs.length:Nat):Int),Ni (((xs.length:Nat):Int)-1),Nu ((cf p xs xs.length:Nat):Int)]
def NY (xs:List Nat) (p:Nat) (j:Nat):List WP:=[Nu ((cf p xs j:Nat):Int),Ni (((xs.length:Nat):Int)-1-((j:Nat):Int)),Nu ((cf p xs j*4294967296:Nat):Int),fun w v=>Ptr 1 (fun _ v=>v = .agg #[.int .u32 ((lmb xs) (xs.length-1-j))]) w v,fun _ v=>v = .int .u32 ((lmb xs) (xs.length-1-j)),Nu ((lmb xs) (xs.length-1-j)),Nu ((cf p xs j*4294967296+xs.getD (xs.length-1-j) 0:Nat):Int),Nu ((cf p xs (j+1):Nat):Int),Ni ((((xs.length:Nat):Int)-1-((j:Nat):Int))-1)]
def Bf:bg:=⟨[0,1,2,4,7,8,9,10],[(.slot 5,.nk),(.slot 6,.i)],[(.one 0,6),(.one 1,7)],[.closed (.one (.ci .u64 0)),.frm 4],6,[(6,5)]⟩
def Bg:List Step:=[bQ [.fact 7,.lit (.ci .i64 0)] oT (ak .geq),
   bQ [.fact 6,.lit (.ci .u64 32)] [oK 8] (aA .shl),
   bQ [.fact 1,.fact 7] [oP 9] (aG 50),
   bQ [.fact 9] [oK 10] (aM 117),
   bQ [.fact 10] [oK 11] (gz 117 103),
   bQ [.fact 8,.fact 11] [oK 12] (aA .or),
   bQ [.fact 12,.fact 2] [oK 13] (aA .rem),
   bQ [.fact 7,.lit (.ci .i64 1)] [oN 14] (ak .sub)]
def NZ:List Step:=[bQ [.fact 7,.lit (.ci .i64 0)] oF (ak .geq)]
def N0:List Step:=[bQ [.fact 1] [oN 3] (aD 50),
   bQ [.fact 3,.lit (.ci .i64 1)] [oN 4] (ak .sub),
   .loop Bf [(Bg,[.frm 13,.frm 14])] NZ]
def N3:List Out:=[⟨.agg [.lit (.cb false),.s],[(0,0,0),(1,1,1)]⟩,oK 2]
theorem N4 {xs:List Nat}{p:Nat} (ax:All 4294967296 xs) (hl:xs.length<=500000) (hp0:0<p) (eJ:p<2147483648)  : ai (ph (uq xs p)) Tryz.prog ⟨115,[.fact 0,.fact 2],[oK 5],false⟩:=by
 have hend:cf p xs xs.length<p:=lw hp0 xs xs.length
 exact aV N3 [oK 5] N0 Tryz.func115 (by kernel_rfl)
  (lB (aP (F:=(au .u32 (lmb xs))) Tryz.underlying50 ad rfl)
   (lB (bK ad (rfl) rfl (by omega) (by omega))
   (bz (counted xs.length (fun j=>ph (uq xs p ++ NY xs p j)) (fun _=>0) (fun j p hp=>bB (show p<(uq xs p).length from hp)) ⟨fun _=>rfl,fun _ _ h=>h.trans (congrArg (Value.int .i64) (by omega)),trivial⟩ (fun j hj=>by
   have hr:cf p xs j<p:=lw hp0 xs j;have hq:=up ax (xs.length-1-j)
   exact ⟨(Bg,[.frm 13,.frm 14]),rfl,⟨ad,fun _ _ h=>h.trans (congrArg (Value.int .i64) (by omega)),trivial⟩,(lB (kW ad)
   (lB (cm (op:=.shl) ad (ug rfl (by omega)) rfl)
   (lB (bZ (i:=(xs.length-1-j)) (F:=(au .u32 (lmb xs))) Tryz.underlying50 (by kernel_rfl) ad (fun _ _ h=>h.trans (congrArg (Value.int .i64) (by omega))) (by omega) rfl)
   (lB (gA (by kernel_rfl) ad rfl)
   (lB (ui (by kernel_rfl) Tryz.underlying103 ad (uk hq.1 hq.2) rfl)
   (lB (bk (op:=.or) ad ad (uh rfl (by omega) (qM ax _)) rfl)
   (lB (bk (op:=.rem) ad ad (i9 rfl hp0) rfl)
   (lB (bK ad (rfl) rfl (by omega) (by omega))
   aw))))))))⟩)
   (lB (chF ad)
   aw)
   (fun q hq w v h=>by
    simp only [Bf,List.mem_cons,List.not_mem_nil,or_false] at hq
    rcases hq with rfl
    ·exact (fun h=>h) h)) aw)))
  (aL [.sub 0 (.agg [.lit (.cb false),.s]) [(1,1,1)],.fact 2 (.one (.nk))] ⟨⟨fun _ _ h=>cH.is' h,fun _ _ h=>cH.lim h,trivial⟩,fun _ _ h=>h▸cA _ _,trivial⟩) (fun _ _ _ h=>h)
def ur (xs:List Nat) (p:Nat):List WP:=[fun w v=>cH w v true xs,Rw 1 (au .u32 (lmb xs)) xs.length,Nu ((p:Nat):Int),Ni ((xs.length:Nat):Int),Ni (((xs.length:Nat):Int)-1),Nu ((cf p xs xs.length:Nat):Int)]
def N5 (xs:List Nat) (p:Nat) (j:Nat):List WP:=[Nu ((cf p xs j:Nat):Int),Ni (((xs.length:Nat):Int)-1-((j:Nat):Int)),Nu ((cf p xs j*4294967296:Nat):Int),fun w v=>Ptr 1 (fun _ v=>v = .agg #[.int .u32 ((lmb xs) (xs.length-1-j))]) w v,fun _ v=>v = .int .u32 ((lmb xs) (xs.length-1-j)),Nu ((lmb xs) (xs.length-1-j)),Nu ((cf p xs j*4294967296+xs.getD (xs.length-1-j) 0:Nat):Int),Nu ((cf p xs (j+1):Nat):Int),Ni ((((xs.length:Nat):Int)-1-((j:Nat):Int))-1)]
def Bh:bg:=⟨[0,1,2,4,7,8,9,10],[(.slot 5,.nk),(.slot 6,.i)],[(.one 0,6),(.one 1,7)],[.closed (.one (.ci .u64 0)),.frm 4],6,[(6,5)]⟩
def Bi:List Step:=[bQ [.fact 7,.lit (.ci .i64 0)] oT (ak .geq),
   bQ [.fact 6,.lit (.ci .u64 32)] [oK 8] (aA .shl),
   bQ [.fact 1,.fact 7] [oP 9] (aG 50),
   bQ [.fact 9] [oK 10] (aM 117),
   bQ [.fact 10] [oK 11] (gz 117 103),
   bQ [.fact 8,.fact 11] [oK 12] (aA .or),
   bQ [.fact 12,.fact 2] [oK 13] (aA .rem),
   bQ [.fact 7,.lit (.ci .i64 1)] [oN 14] (ak .sub)]
def N6:List Step:=[bQ [.fact 7,.lit (.ci .i64 0)] oF (ak .geq)]
def N7:List Step:=[bQ [.fact 1] [oN 3] (aD 50),
   bQ [.fact 3,.lit (.ci .i64 1)] [oN 4] (ak .sub),
   .loop Bh [(Bi,[.frm 13,.frm 14])] N6,
   bQ [.fact 5,.lit (.ci .u64 0)] oF (aA .gtr)]
def N8:List Out:=[⟨.agg [.lit (.cb true),.s],[(0,0,0),(1,1,1)]⟩,oK 2]
theorem N9 {xs:List Nat}{p:Nat} (ax:All 4294967296 xs) (hl:xs.length<=500000) (hp0:0<p) (eJ:p<2147483648) (h0:cf p xs xs.length=0):ai (ph (ur xs p)) Tryz.prog ⟨115,[.fact 0,.fact 2],[oK 5],false⟩:=by
 have hend:cf p xs xs.length<p:=lw hp0 xs xs.length
 exact aV N8 [oK 5] N7 Tryz.func115 (by kernel_rfl)
  (lB (aP (F:=(au .u32 (lmb xs))) Tryz.underlying50 ad rfl)
   (lB (bK ad (rfl) rfl (by omega) (by omega))
   (bz (counted xs.length (fun j=>ph (ur xs p ++ N5 xs p j)) (fun _=>0) (fun j p hp=>bB (show p<(ur xs p).length from hp)) ⟨fun _=>rfl,fun _ _ h=>h.trans (congrArg (Value.int .i64) (by omega)),trivial⟩ (fun j hj=>by
   have hr:cf p xs j<p:=lw hp0 xs j;have hq:=up ax (xs.length-1-j)
   exact ⟨(Bi,[.frm 13,.frm 14]),rfl,⟨ad,fun _ _ h=>h.trans (congrArg (Value.int .i64) (by omega)),trivial⟩,(lB (kW ad)
   (lB (cm (op:=.shl) ad (ug rfl (by omega)) rfl)
   (lB (bZ (i:=(xs.length-1-j)) (F:=(au .u32 (lmb xs))) Tryz.underlying50 (by kernel_rfl) ad (fun _ _ h=>h.trans (congrArg (Value.int .i64) (by omega))) (by omega) rfl)
   (lB (gA (by kernel_rfl) ad rfl)
   (lB (ui (by kernel_rfl) Tryz.underlying103 ad (uk hq.1 hq.2) rfl)
   (lB (bk (op:=.or) ad ad (uh rfl (by omega) (qM ax _)) rfl)
   (lB (bk (op:=.rem) ad ad (i9 rfl hp0) rfl)
   (lB (bK ad (rfl) rfl (by omega) (by omega))
   aw))))))))⟩)
   (lB (chF ad)
   aw)
   (fun q hq w v h=>by
    simp only [Bh,List.mem_cons,List.not_mem_nil,or_false] at hq
    rcases hq with rfl
    ·exact (fun h=>h) h)) (lB (cY (op:=.gtr) ad (bT (decide_eq_false (by omega)) (by simp)))
   aw))))
  (aL [.sub 0 (.agg [.lit (.cb true),.s]) [(1,1,1)],.fact 2 (.one (.nk))] ⟨⟨fun _ _ h=>cH.is' h,fun _ _ h=>cH.lim h,trivial⟩,fun _ _ h=>h▸cA _ _,trivial⟩) (fun _ _ _ h=>h)
def ut (xs:List Nat) (p:Nat):List WP:=[fun w v=>cH w v true xs,Rw 1 (au .u32 (lmb xs)) xs.length,Nu ((p:Nat):Int),Ni ((xs.length:Nat):Int),Ni (((xs.length:Nat):Int)-1),Nu ((cf p xs xs.length:Nat):Int),Nu ((p-cf p xs xs.length:Nat):Int)]
def Oe (xs:List Nat) (p:Nat) (j:Nat):List WP:=[Nu ((cf p xs j:Nat):Int),Ni (((xs.length:Nat):Int)-1-((j:Nat):Int)),Nu ((cf p xs j*4294967296:Nat):Int),fun w v=>Ptr 1 (fun _ v=>v = .agg #[.int .u32 ((lmb xs) (xs.length-1-j))]) w v,fun _ v=>v = .int .u32 ((lmb xs) (xs.length-1-j)),Nu ((lmb xs) (xs.length-1-j)),Nu ((cf p xs j*4294967296+xs.getD (xs.length-1-j) 0:Nat):Int),Nu ((cf p xs (j+1):Nat):Int),Ni ((((xs.length:Nat):Int)-1-((j:Nat):Int))-1)]
def Bj:bg:=⟨[0,1,2,4,7,8,9,10],[(.slot 5,.nk),(.slot 6,.i)],[(.one 0,7),(.one 1,8)],[.closed (.one (.ci .u64 0)),.frm 4],7,[(7,5)]⟩
def Bk:List Step:=[bQ [.fact 8,.lit (.ci .i64 0)] oT (ak .geq),
   bQ [.fact 7,.lit (.ci .u64 32)] [oK 9] (aA .shl),
   bQ [.fact 1,.fact 8] [oP 10] (aG 50),
   bQ [.fact 10] [oK 11] (aM 117),
   bQ [.fact 11] [oK 12] (gz 117 103),
   bQ [.fact 9,.fact 12] [oK 13] (aA .or),
   bQ [.fact 13,.fact 2] [oK 14] (aA .rem),
   bQ [.fact 8,.lit (.ci .i64 1)] [oN 15] (ak .sub)]
def Of:List Step:=[bQ [.fact 8,.lit (.ci .i64 0)] oF (ak .geq)]
def Og:List Step:=[bQ [.fact 1] [oN 3] (aD 50),
   bQ [.fact 3,.lit (.ci .i64 1)] [oN 4] (ak .sub),
   .loop Bj [(Bk,[.frm 14,.frm 15])] Of,
   bQ [.fact 5,.lit (.ci .u64 0)] oT (aA .gtr),
   bQ [.fact 2,.fact 5] [oK 6] (aA .sub)]
def Oh:List Out:=[⟨.agg [.lit (.cb true),.s],[(0,0,0),(1,1,1)]⟩,oK 2]
theorem Oi {xs:List Nat}{p:Nat} (ax:All 4294967296 xs) (hl:xs.length<=500000) (hp0:0<p) (eJ:p<2147483648) (h0:0<cf p xs xs.length):ai (ph (ut xs p)) Tryz.prog ⟨115,[.fact 0,.fact 2],[oK 6],false⟩:=by
 have hend:cf p xs xs.length<p:=lw hp0 xs xs.length
 exact aV Oh [oK 6] Og Tryz.func115 (by kernel_rfl)
  (lB (aP (F:=(au .u32 (lmb xs))) Tryz.underlying50 ad rfl)
   (lB (bK ad (rfl) rfl (by omega) (by omega))
   (bz (counted xs.length (fun j=>ph (ut xs p ++ Oe xs p j)) (fun _=>0) (fun j p hp=>bB (show p<(ut xs p).length from hp)) ⟨fun _=>rfl,fun _ _ h=>h.trans (congrArg (Value.int .i64) (by omega)),trivial⟩ (fun j hj=>by
   have hr:cf p xs j<p:=lw hp0 xs j;have hq:=up ax (xs.length-1-j)
   exact ⟨(Bk,[.frm 14,.frm 15]),rfl,⟨ad,fun _ _ h=>h.trans (congrArg (Value.int .i64) (by omega)),trivial⟩,(lB (kW ad)
   (lB (cm (op:=.shl) ad (ug rfl (by omega)) rfl)
   (lB (bZ (i:=(xs.length-1-j)) (F:=(au .u32 (lmb xs))) Tryz.underlying50 (by kernel_rfl) ad (fun _ _ h=>h.trans (congrArg (Value.int .i64) (by omega))) (by omega) rfl)
   (lB (gA (by kernel_rfl) ad rfl)
   (lB (ui (by kernel_rfl) Tryz.underlying103 ad (uk hq.1 hq.2) rfl)
   (lB (bk (op:=.or) ad ad (uh rfl (by omega) (qM ax _)) rfl)
   (lB (bk (op:=.rem) ad ad (i9 rfl hp0) rfl)
   (lB (bK ad (rfl) rfl (by omega) (by omega))
   aw))))))))⟩)
   (lB (chF ad)
   aw)
   (fun q hq w v h=>by
    simp only [Bj,List.mem_cons,List.not_mem_nil,or_false] at hq
    rcases hq with rfl
    ·exact (fun h=>h) h)) (lB (ugT ad)
   (lB (bk (op:=.sub) ad ad (run_sub64 rfl (by omega) (by omega)) rfl)
   aw)))))
  (aL [.sub 0 (.agg [.lit (.cb true),.s]) [(1,1,1)],.fact 2 (.one (.nk))] ⟨⟨fun _ _ h=>cH.is' h,fun _ _ h=>cH.lim h,trivial⟩,fun _ _ h=>h▸cA _ _,trivial⟩) (fun _ _ _ h=>h)
section
variable {Φ:PH}{p q x k P:Nat}{z:Int}
theorem d9 (hp:∀w v,Φ p w v->aC w v z k) (hq:∀w v,Φ q w v->v = .int .u64 ((P:Nat):Int)) (hx:Φ x=Nu (z % ((P:Nat):Int))) (hk:k<=500000) (hP:0<P) (dN:P<2147483648):ai Φ Tryz.prog ⟨115,[.fact p,.fact q],[oK x],false⟩:=fun X w vs hX ha=>by
 match vs,ha with
 | [v,u],ha=>
  obtain ⟨b,s,Y,rfl,⟨xs,hs,ax,hY,hl⟩,rfl⟩:=hp _ _ (ha.1 w (Off.refl _ _))
  have hr:=NX hP xs b
  rw [hY] at hr
  have hraw:∀w1,Off X w w1->cH w1 (.agg #[.bool b,s]) b xs:=fun w1 hw=>⟨s,rfl,hs.kp hw.1,ax⟩
  have hu:∀w1,Off X w w1->u = .int .u64 ((P:Nat):Int):=fun w1 hw=>hq _ _ (ha.2.1 w1 hw)
  have fin:∀{Ψ:List WP}{r:Int}{e:Ending}{w':World}{o:Nat},r=sg b Y % (P:Int)->(w.grownBy w' none∧∃us:List Value,e = .returned (if (Site.mk 115 [] [] false).aT then .tuple us.toArray else us.headD undef)∧bh (ph Ψ) X w' [oK o] us)->(∀w v,ph Ψ o w v->v = .int .u64 r)->w.grownBy w' none∧∃us:List Value,e = .returned (if (Site.mk 115 [] [] false).aT then .tuple us.toArray else us.headD undef)∧bh Φ X w' [oK x] us:=fun hr ⟨hg,us,he,h⟩ ho=>by
   refine ⟨hg,us,he,?_⟩
   match us,h with
   | [u],h=>exact cJ h.1.1 hx fun w1 hw=>by rw [<- hr];exact ho _ _ (h.1.2 _ (List.mem_singleton.2 rfl) w1 hw)
  cases b
  ·rw [if_neg (by simp)] at hr
   exact (N4 ax (by omega) hP dN X w [.agg #[.bool false,s],u] hX ⟨fun w1 hw=>hraw w1 hw,fun w1 hw=>hu w1 hw,trivial⟩).mono fun e w' h=>fin hr h fun _ _ h=>h
  ·by_cases h0:0<cf P xs xs.length
   ·rw [if_pos ⟨rfl,h0⟩] at hr
    exact (Oi ax (by omega) hP dN h0 X w [.agg #[.bool true,s],u] hX ⟨fun w1 hw=>hraw w1 hw,fun w1 hw=>hu w1 hw,trivial⟩).mono fun e w' h=>fin hr h fun _ _ h=>h
   ·rw [if_neg fun h=>h0 h.2] at hr
    exact (N9 ax (by omega) hP dN (by omega) X w [.agg #[.bool true,s],u] hX ⟨fun w1 hw=>hraw w1 hw,fun w1 hw=>hu w1 hw,trivial⟩).mono fun e w' h=>fin hr h fun _ _ h=>h
end
def uu (z:Nat->Int) (n0 c0:Nat) (s0:Option Addr):List WP:=[cO s0 c0 1 (au .u64 z) n0,cO s0 c0 1 (au .u64 z) (tl z n0)]
def Oj (z:Nat->Int) (n0 c0:Nat) (s0:Option Addr) (j:Nat):List WP:=[cO s0 c0 1 (au .u64 z) (n0-j),Nz (n0-j),Nz (n0-j),Nz (n0-(j+1)),fun w v=>Ptr 1 (fun _ v=>v = .agg #[.int .u64 (z (n0-(j+1)))]) w v,Nu (z (n0-(j+1))),Nz (n0-j),Nz (n0-(j+1)),cO s0 c0 1 (au .u64 z) (n0-(j+1)),Nz (n0-j)]
def Bl:bg:=⟨[2],[(.slot 0,.s)],[(.one 0,2)],[.frm 0],2,[(2,1)]⟩
def Bm:List Step:=[bQ [.fact 2] [oN 3] (aD 126),
   bQ [.fact 3,.lit (.ci .i64 0)] oT (ak .gtr),
   bQ [.fact 2] [oN 4] (aD 126),
   bQ [.fact 4,.lit (.ci .i64 1)] [oN 5] (ak .sub),
   bQ [.fact 2,.fact 5] [oP 6] (aG 126),
   bQ [.fact 6] [oK 7] (aM 103),
   bQ [.fact 7,.lit (.ci .u64 0)] oT (aA .eql),
   bQ [.fact 2] [oN 8] (aD 126),
   bQ [.fact 8,.lit (.ci .i64 1)] [oN 9] (ak .sub),
   bQ [.fact 2,.fact 9] [oS 10] (dI 126)]
def Ok:List Step:=[bQ [.fact 2] [oN 11] (aD 126),
   bQ [.fact 11,.lit (.ci .i64 0)] oF (ak .gtr)]
def Ol:List Step:=[.loop Bl [(Bm,[.frm 10])] Ok]
def Om:List Out:=[oS 0]
theorem On {z:Nat->Int}{n0 c0:Nat}{s0:Option Addr} (hn:n0<=1000000) (ht:tl z n0=0):ai (ph (uu z n0 c0 s0)) Tryz.prog ⟨138,[.fact 0],[oS 1],false⟩:=by
 have hle:=aF z n0
 exact aV Om [oS 1] Ol Tryz.func138 (by kernel_rfl)
  (bz (counted (n0-tl z n0) (fun j=>ph (uu z n0 c0 s0 ++ Oj z n0 c0 s0 j)) (fun _=>0) (fun j p hp=>bB (show p<(uu z n0 c0 s0).length from hp)) ⟨ad,trivial⟩ (fun j hj=>by
   have h0:z (n0-(j+1))=0:=fQ z n0 _ (by omega) (by omega)
   exact ⟨(Bm,[.frm 10]),rfl,⟨ad,trivial⟩,(lB (fP (sz:=1) (n:=(n0-j)) (F:=(au .u64 z)) Tryz.underlying126 (fun _ _ h=>Rw.arr h.2) rfl)
   (lB (d3 ad)
   (lB (fP (sz:=1) (n:=(n0-j)) (F:=(au .u64 z)) Tryz.underlying126 (fun _ _ h=>Rw.arr h.2) rfl)
   (lB (bK ad (by omega) rfl (by omega) (by omega))
   (lB (jY (i:=(n0-(j+1))) (sz:=1) (n:=(n0-j)) (F:=(au .u64 z)) Tryz.underlying126 (by kernel_rfl) (fun _ _ h=>Rw.arr h.2) ad (by omega) rfl)
   (lB (gA (by kernel_rfl) ad rfl)
   (lB (cY (op:=.eql) ad (bT (beq_iff_eq.2 h0) (by simp)))
   (lB (fP (sz:=1) (n:=(n0-j)) (F:=(au .u64 z)) Tryz.underlying126 (fun _ _ h=>Rw.arr h.2) rfl)
   (lB (bK ad (by omega) rfl (by omega) (by omega))
   (lB (nC (m:=(n0-(j+1))) (n:=(n0-j)) (F:=(au .u64 z)) Tryz.underlying126 (by kernel_rfl) ad ad (by first | omega | exact aF _ _) rfl)
   aw))))))))))⟩)
   (by
   have hle:=aF z n0
   exact (lB (fP (sz:=1) (n:=(n0-((n0-tl z n0)))) (F:=(au .u64 z)) Tryz.underlying126 (fun _ _ h=>Rw.arr h.2) rfl)
   (lB (jW ad)
   aw)))
   (fun q hq w v h=>by
    simp only [Bl,List.mem_cons,List.not_mem_nil,or_false] at hq
    rcases hq with rfl
    ·exact (fun h=>by have h':cO s0 c0 1 (au .u64 z) (n0-(n0-tl z n0)) w v:=h;rw [show n0-(n0-tl z n0)=tl z n0 by have:=aF z n0;omega] at h';exact h') h)) aw)
  (aL [.fact 0 (.one (.s))] ⟨fun _ _ h=>Rw.is (sz:=1) (F:=(au .u64 z)) (n:=n0) h.2,trivial⟩) bc
def uw (z:Nat->Int) (n0 c0:Nat) (s0:Option Addr):List WP:=[cO s0 c0 1 (au .u64 z) n0,cO s0 c0 1 (au .u64 z) (tl z n0)]
def Oo (z:Nat->Int) (n0 c0:Nat) (s0:Option Addr) (j:Nat):List WP:=[cO s0 c0 1 (au .u64 z) (n0-j),Nz (n0-j),Nz (n0-j),Nz (n0-(j+1)),fun w v=>Ptr 1 (fun _ v=>v = .agg #[.int .u64 (z (n0-(j+1)))]) w v,Nu (z (n0-(j+1))),Nz (n0-j),Nz (n0-(j+1)),cO s0 c0 1 (au .u64 z) (n0-(j+1)),Nz (n0-j),Nz (n0-j),Nz (tl z n0-1),fun w v=>Ptr 1 (fun _ v=>v = .agg #[.int .u64 (z (tl z n0-1))]) w v,Nu (z (tl z n0-1))]
def Bn:bg:=⟨[2],[(.slot 0,.s)],[(.one 0,2)],[.frm 0],2,[(2,1)]⟩
def Bo:List Step:=[bQ [.fact 2] [oN 3] (aD 126),
   bQ [.fact 3,.lit (.ci .i64 0)] oT (ak .gtr),
   bQ [.fact 2] [oN 4] (aD 126),
   bQ [.fact 4,.lit (.ci .i64 1)] [oN 5] (ak .sub),
   bQ [.fact 2,.fact 5] [oP 6] (aG 126),
   bQ [.fact 6] [oK 7] (aM 103),
   bQ [.fact 7,.lit (.ci .u64 0)] oT (aA .eql),
   bQ [.fact 2] [oN 8] (aD 126),
   bQ [.fact 8,.lit (.ci .i64 1)] [oN 9] (ak .sub),
   bQ [.fact 2,.fact 9] [oS 10] (dI 126)]
def Ot:List Step:=[bQ [.fact 2] [oN 11] (aD 126),
   bQ [.fact 11,.lit (.ci .i64 0)] oT (ak .gtr),
   bQ [.fact 2] [oN 12] (aD 126),
   bQ [.fact 12,.lit (.ci .i64 1)] [oN 13] (ak .sub),
   bQ [.fact 2,.fact 13] [oP 14] (aG 126),
   bQ [.fact 14] [oK 15] (aM 103),
   bQ [.fact 15,.lit (.ci .u64 0)] oF (aA .eql)]
def Ou:List Step:=[.loop Bn [(Bo,[.frm 10])] Ot]
def Ov:List Out:=[oS 0]
theorem Ow {z:Nat->Int}{n0 c0:Nat}{s0:Option Addr} (hn:n0<=1000000) (ht:0<tl z n0):ai (ph (uw z n0 c0 s0)) Tryz.prog ⟨138,[.fact 0],[oS 1],false⟩:=by
 have hle:=aF z n0
 exact aV Ov [oS 1] Ou Tryz.func138 (by kernel_rfl)
  (bz (counted (n0-tl z n0) (fun j=>ph (uw z n0 c0 s0 ++ Oo z n0 c0 s0 j)) (fun _=>0) (fun j p hp=>bB (show p<(uw z n0 c0 s0).length from hp)) ⟨ad,trivial⟩ (fun j hj=>by
   have h0:z (n0-(j+1))=0:=fQ z n0 _ (by omega) (by omega)
   exact ⟨(Bo,[.frm 10]),rfl,⟨ad,trivial⟩,(lB (fP (sz:=1) (n:=(n0-j)) (F:=(au .u64 z)) Tryz.underlying126 (fun _ _ h=>Rw.arr h.2) rfl)
   (lB (d3 ad)
   (lB (fP (sz:=1) (n:=(n0-j)) (F:=(au .u64 z)) Tryz.underlying126 (fun _ _ h=>Rw.arr h.2) rfl)
   (lB (bK ad (by omega) rfl (by omega) (by omega))
   (lB (jY (i:=(n0-(j+1))) (sz:=1) (n:=(n0-j)) (F:=(au .u64 z)) Tryz.underlying126 (by kernel_rfl) (fun _ _ h=>Rw.arr h.2) ad (by omega) rfl)
   (lB (gA (by kernel_rfl) ad rfl)
   (lB (cY (op:=.eql) ad (bT (beq_iff_eq.2 h0) (by simp)))
   (lB (fP (sz:=1) (n:=(n0-j)) (F:=(au .u64 z)) Tryz.underlying126 (fun _ _ h=>Rw.arr h.2) rfl)
   (lB (bK ad (by omega) rfl (by omega) (by omega))
   (lB (nC (m:=(n0-(j+1))) (n:=(n0-j)) (F:=(au .u64 z)) Tryz.underlying126 (by kernel_rfl) ad ad (by first | omega | exact aF _ _) rfl)
   aw))))))))))⟩)
   (by
   have hle:=aF z n0;have hl:=gk z n0 ht
   exact (lB (fP (sz:=1) (n:=(n0-((n0-tl z n0)))) (F:=(au .u64 z)) Tryz.underlying126 (fun _ _ h=>Rw.arr h.2) rfl)
   (lB (d3 ad)
   (lB (fP (sz:=1) (n:=(n0-((n0-tl z n0)))) (F:=(au .u64 z)) Tryz.underlying126 (fun _ _ h=>Rw.arr h.2) rfl)
   (lB (bK ad (by omega) rfl (by omega) (by omega))
   (lB (jY (i:=(tl z n0-1)) (sz:=1) (n:=(n0-((n0-tl z n0)))) (F:=(au .u64 z)) Tryz.underlying126 (by kernel_rfl) (fun _ _ h=>Rw.arr h.2) ad (by omega) rfl)
   (lB (gA (by kernel_rfl) ad rfl)
   (lB (cY (op:=.eql) ad (bT (beq_eq_false_iff_ne.2 hl) (by simp)))
   aw))))))))
   (fun q hq w v h=>by
    simp only [Bn,List.mem_cons,List.not_mem_nil,or_false] at hq
    rcases hq with rfl
    ·exact (fun h=>by have h':cO s0 c0 1 (au .u64 z) (n0-(n0-tl z n0)) w v:=h;rw [show n0-(n0-tl z n0)=tl z n0 by have:=aF z n0;omega] at h';exact h') h)) aw)
  (aL [.fact 0 (.one (.s))] ⟨fun _ _ h=>Rw.is (sz:=1) (F:=(au .u64 z)) (n:=n0) h.2,trivial⟩) bc
section
variable {Φ:PH}{p x n j:Nat}{z:Nat->Int}
theorem Bp {s0:Option Addr}{c0:Nat} (hp:∀w v,Φ p w v->cO s0 c0 1 (au .u64 z) n w v) (hx:Φ x=cO s0 c0 1 (au .u64 z) (tl z n)) (hn:n<=1000000):ai Φ Tryz.prog ⟨138,[.fact p],[oS x],false⟩:=by
 rcases Nat.eq_zero_or_pos (tl z n) with h | h
 ·exact aW (On hn h) ⟨hp,trivial⟩ ⟨⟨rfl,⟨rfl,rfl,fun _ _ h=>hx▸h⟩,trivial⟩,trivial⟩
 ·exact aW (Ow hn h) ⟨hp,trivial⟩ ⟨⟨rfl,⟨rfl,rfl,fun _ _ h=>hx▸h⟩,trivial⟩,trivial⟩
theorem Ox (hp:∀w v,Φ p w v->ah 1 103 (au .u64 z) n w v) (hx:Φ x=ah 1 103 (au .u64 z) (tl z n)) (hn:n<=1000000):ai Φ Tryz.prog ⟨138,[.fact p],[oS x],.kY [] j 0⟩:=fun X L w vs hX hL hLX ha hb=>by
 match vs,ha with
 | [v],ha=>
  have h1:=hp _ _ (ha.1 w (Off.refl _ _))
  obtain ⟨s0,c0,rfl,hc,he⟩:=h1.rw
  refine (Bp (Φ:=ph [cO s0 c0 1 (au .u64 z) n,cO s0 c0 1 (au .u64 z) (tl z n)]) (p:=0) (x:=1) (s0:=s0) (c0:=c0) ad rfl hn X w [.slice s0 n c0] hX ⟨fun w1 hw=>⟨rfl,(hp _ _ (ha.1 w1 hw)).rw⟩,trivial⟩).mono fun e w' ⟨hg,us,he,ho⟩=>?_
  match us,ho with
  | [u],ho=>
   have hu:=ho.1.2 _ (List.mem_singleton.2 rfl) w' (Off.refl _ _)
   obtain ⟨rfl,-⟩:u = .slice s0 (tl z n) c0∧_:=hu
   refine ⟨hg,_,he,cJ ⟨⟨_,_,_,rfl⟩,fun _ h=>by cases h⟩ hx fun w1 hw=>(hp _ _ (ha.1 w1 ((Off.grown hg).trans hw fun _ _ h=>h))).take (aF z n),fun g hg'=>?_⟩
   have hg2:blk (.slice s0 n c0)=some g:=by
    revert hg'
    cases s0 <;> exact fun h=>h
   have h3:=hb _ g rfl hg2
   exact ⟨Nat.lt_of_lt_of_le (hL g h3) hg.size,.inl h3⟩
end
def ux (z:Nat->Int) (n k p:Nat):List WP:=[Rw 2 (If z k) n,Nu ((p:Nat):Int),Nz n,ah 1 103 (au .u64 (upto 0 (img p z))) n,Nz n,ah 1 103 (au .u64 (upto n (img p z))) n,ah 1 103 (au .u64 (upto n (img p z))) (tl (upto n (img p z)) n)]
def Oy (z:Nat->Int) (n k p:Nat) (j:Nat):List WP:=[Nz j,ah 1 103 (au .u64 (upto j (img p z))) n,fun _ _=>True,Ptr 2 (Iw (z j) k),Iw (z j) k,Nu ((z j) % ((p:Nat):Int)),At 1,fun w v=>Ptr 1 (fun _ v=>v = .agg #[.int .u64 ((upto j (img p z)) j)]) w v,ah 1 103 (au .u64 (upto (j+1) (img p z))) n,Nz (j+1)]
def Br:bg:=⟨[0,1,4,8,9,10,11,12],[(.slot 13,.i),(.slot 5,.s)],[(.one 0,7),(.one 1,.Ru [1] 8),(.one 1,.lo 1)],[.closed (.one (.ci .i64 0)),.frm 3,.frm 0],7,[(8,5)]⟩
def Bs:List Step:=[bQ [.fact 7,.fact 4] oT (ak .lss),
   bQ [.fact 0,.fact 7] [oP 10] (aG 28),
   bQ [.fact 10] [oI 11] (aM 52),
   .base ⟨115,[.fact 11,.fact 1],[oK 12],false⟩,
   .base ⟨0,[.fact 8,.fact 7],[oP 14],.joint [1] 13 (aG 126)⟩,
   .base ⟨0,[.fact 8,.fact 7,.any,.fact 12],[oS 15],.put [] 1 0 13 (dV 103 (.tmp 18) (.tmp 19))⟩,
   bQ [.fact 7,.lit (.ci .i64 1)] [oN 16] (ak .add)]
def Oz:List Step:=[bQ [.fact 7,.fact 4] oF (ak .lss)]
def OA:List Step:=[bQ [.fact 0] [oN 2] (aD 28),
   .base ⟨0,[.fact 2,.fact 2],[oS 3],.loose [] 1 0 (fp 126)⟩,
   bQ [.fact 0] [oN 4] (aD 28),
   .loop Br [(Bs,[.frm 16,.frm 15,.frm 0])] Oz,
   .base ⟨138,[.fact 5],[oS 6],.kY [] 1 0⟩]
def OC:List Out:=[oS 0,oK 1]
theorem OD {z:Nat->Int}{n k p:Nat} (hn:n<=1000000) (hk:k<=500000) (hp0:0<p) (eJ:p<2147483648):fO (ph (ux z n k p)) Tryz.prog ⟨117,[.fact 0,.fact 1],[oS 6],false⟩:=by
 skip
 exact nr OC [oS 6] OA Tryz.func117 (by kernel_rfl)
  (lB (aP (F:=(If z k)) Tryz.underlying28 ad rfl)
   (lB (MG (n:=n) ad (by omega) (fun i=>rfl) rfl)
   (lB (aP (F:=(If z k)) Tryz.underlying28 ad rfl)
   (bz (counted n (fun j=>ph (ux z n k p ++ Oy z n k p j)) (fun _=>0) (fun j p hp=>bB (show p<(ux z n k p).length from hp)) ⟨fun _=>rfl,ad,aS,trivial⟩ (fun j hj=>by
   skip
   exact ⟨(Bs,[.frm 16,.frm 15,.frm 0]),rfl,⟨ad,ad,aS,trivial⟩,(lB (cU ad ad)
   (lB (bZ (i:=j) (F:=(If z k)) Tryz.underlying28 (by kernel_rfl) ad ad (by omega) rfl)
   (lB (dW (sz:=2) (F:=Iw (z j) k) (by kernel_rfl) (by kernel_rfl) ad (fun _ _ _ g h=>aC.kp h g) (fun _ _ h=>aC.is h) rfl)
   (lB (d9 (P:=p) iI ad rfl (by omega) (by omega) (by omega))
   (lB (bI (i:=j) (sz:=1) (n:=n) (F:=(au .u64 (upto j (img p z)))) Tryz.underlying126 (by kernel_rfl) (fun _ _ h=>ah.arr h) ad (by omega) rfl rfl)
   (lB (uj (i:=j) (n:=n) (Z:=(upto j (img p z))) (Z':=(upto (j+1) (img p z))) (.tmp 18) (.tmp 19) (by kernel_rfl) ad ad (by omega) ad rfl (fun i h=>(ms h).symm) ((mt j (img p z)).symm) rfl)
   (lB (cN ad (by omega) rfl (by omega) (by omega))
   aw)))))))⟩)
   (lB (tlF ad ad)
   aw)
   (fun q hq w v h=>by
    simp only [Br,List.mem_cons,List.not_mem_nil,or_false] at hq
    rcases hq with rfl
    ·exact (fun h=>h) h)) (lB (Ox (z:=(upto n (img p z))) (n:=n) ad rfl (by omega))
   aw)))))
  (aL [.fact 0 (.one (.s)),.fact 1 (.one (.nk))] ⟨Rw.Is 2 (If z k) n,fun _ _ h=>h▸cA _ _,trivial⟩) (fun _ _ _ h=>h)
section
variable {Φ:PH}{p q x n k P j:Nat}{J:List Nat}{z:Nat->Int}
theorem eC (hp:∀w v,Φ p w v->Rw 2 (If z k) n w v) (hq:∀w v,Φ q w v->v = .int .u64 ((P:Nat):Int)) (hx:Φ x=ah 1 103 (au .u64 (img P z)) (tl (img P z) n)) (hn:n<=1000000) (hk:k<=500000) (hP:0<P) (dN:P<2147483648):ai Φ Tryz.prog ⟨117,[.fact p,.fact q],[oS x],.cu J j⟩:=
 pG (OD hn hk hP dN) ⟨hp,hq,trivial⟩ ⟨⟨rfl,⟨rfl,rfl,fun w v h=>by
  rw [hx]
  have e:tl (upto n (img P z)) n=tl (img P z) n:=nD fun i hi=>fD hi
  have h':ah 1 103 (au .u64 (upto n (img P z))) (tl (upto n (img P z)) n) w v:=h
  rw [e] at h'
  refine h'.to fun i w v hi h=>?_
  have:=aF (img P z) n
  have h2:v = .agg #[.int .u64 (upto n (img P z) i)]:=h
  show v = .agg #[.int .u64 (img P z i)]
  rw [h2,fD (by omega)]⟩,trivial⟩,trivial⟩
end
def eK (p:Nat) (c:Int) (a:Nat->Int) (k j:Nat):Int:=if j<k then a j*c % p else a j
theorem uy {p:Nat}{c:Int}{a:Nat->Int}{k j:Nat} (h:k<=j):eK p c a k j=a j:=if_neg (by omega)
theorem OE {p:Nat}{c:Int}{a:Nat->Int}{k j:Nat} (h:j≠k):eK p c a (k+1) j=eK p c a k j:=by
 unfold eK
 split <;> split <;> first | rfl | omega
theorem OF {p:Nat}{c:Int}{a:Nat->Int}{k:Nat}:eK p c a (k+1) k=a k*c % p:=if_pos (by omega)
def uz (a:Nat->Int) (c:Int) (la p:Nat) (s0:Option Addr) (n0 m0:Nat) (w0:World):List WP:=[gB w0 (.slice s0 n0 m0),Nu c,Nu ((p:Nat):Int),ah 1 103 (au .u64 (eK p c a 0)) la,b9 la,Nz la,ah 1 103 (au .u64 (eK p c a la)) la,gB w0 (.slice s0 n0 m0)]
def OG (a:Nat->Int) (c:Int) (la p:Nat) (s0:Option Addr) (n0 m0:Nat) (w0:World) (j:Nat):List WP:=[Nz j,ah 1 103 (au .u64 (eK p c a j)) la,fun _ _=>True,gB w0 (.slice s0 n0 m0),At 1,fun w v=>Ptr 1 (fun _ v=>v = .agg #[.int .u64 ((eK p c a j) j)]) w v,Nu ((eK p c a j) j),Nu (a j*c),Nu (a j*c % (p:Int)),At 1,fun w v=>Ptr 1 (fun _ v=>v = .agg #[.int .u64 ((eK p c a j) j)]) w v,ah 1 103 (au .u64 (eK p c a (j+1))) la,Nz (j+1)]
def Bu:bg:=⟨[1,2,6,10],[(.slot 11,.i),(.two 0 9,.s)],[(.one 0,8),(.one 1,.Ru [1] 9),(.one 1,.lo 1),(.one 1,11)],[.closed (.one (.ci .i64 0)),.frm 3,.frm 0,.frm 0],8,[(9,6),(11,7)]⟩
def Bv:List Step:=[bQ [.fact 8,.fact 5] oT (ak .lss),
   .base ⟨0,[.fact 9,.fact 8],[oP 13],.joint [1] 12 (aG 126)⟩,
   .base ⟨0,[.fact 13],[oK 14],.dd [1] (aM 103)⟩,
   bQ [.fact 14,.fact 1] [oK 15] (aA .mul),
   bQ [.fact 15,.fact 2] [oK 16] (aA .rem),
   .base ⟨0,[.fact 9,.fact 8],[oP 18],.joint [1] 17 (aG 126)⟩,
   .base ⟨0,[.fact 9,.fact 8,.any,.fact 16],[oS 19],.put [] 1 0 17 (dV 103 (.tmp 16) (.tmp 17))⟩,
   bQ [.fact 8,.lit (.ci .i64 1)] [oN 20] (ak .add)]
def OH:List Step:=[bQ [.fact 8,.fact 5] oF (ak .lss)]
def OI:List Step:=[.freed (.one (.s 0 0)) 3 4,
   bQ [.fact 4] [oN 5] (aD 126),
   .loop Bu [(Bv,[.frm 20,.frm 19,.frm 0,.frm 11])] OH]
def Bw:List Out:=[oS 0,oK 1,oK 2]
theorem OJ {a:Nat->Int}{c:Int}{la p:Nat}{s0:Option Addr}{n0 m0:Nat}{w0:World} (hla:la<=1000000) (hp0:0<p) (eJ:p<2147483648) (hc:0<=c∧c<p) (ha:∀j,0<=a j∧a j<p):uA (ph (uz a c la p s0 n0 m0 w0)) Tryz.prog 119 Bw 3 [6] [oS 7] (.slice s0 n0 m0) w0:=by
 skip
 exact Bz Bw [oS 7] 3 7 [6] OI rfl Tryz.func119 (by kernel_rfl)
  (cV (cW (e:=103) (sz:=1) (n:=la) (F:=(au .u64 (eK p c a 0))) ad rfl)
   (lB (ce (n:=la) Tryz.underlying126 ad rfl)
   (bz (counted la (fun j=>ph (uz a c la p s0 n0 m0 w0 ++ OG a c la p s0 n0 m0 w0 j)) (fun _=>0) (fun j p hp=>bB (show p<(uz a c la p s0 n0 m0 w0).length from hp)) ⟨fun _=>rfl,ad,aS,ad,trivial⟩ (fun j hj=>by
   have h1:=ha j;have h2:=n5 (a:=a j) (b:=c) (by omega) (by omega);have h3:=Int.emod_nonneg (a j*c) (b:=(p:Int)) (by omega)
   exact ⟨(Bv,[.frm 20,.frm 19,.frm 0,.frm 11]),rfl,⟨ad,ad,aS,ad,trivial⟩,(lB (cU ad ad)
   (lB (bI (i:=j) (sz:=1) (n:=la) (F:=(au .u64 (eK p c a j))) Tryz.underlying126 (by kernel_rfl) (fun _ _ h=>ah.arr h) ad (by omega) rfl rfl)
   (lB (n6 (by kernel_rfl) ad rfl)
   (lB (bk (op:=.mul) ad ad (jc (by rw [uy (Nat.le_refl _)]) (by rw [uy (Nat.le_refl _)];omega) (by omega) (by omega)) rfl)
   (lB (bk (op:=.rem) ad ad (d8 rfl (by omega) (by omega)) rfl)
   (lB (bI (i:=j) (sz:=1) (n:=la) (F:=(au .u64 (eK p c a j))) Tryz.underlying126 (by kernel_rfl) (fun _ _ h=>ah.arr h) ad (by omega) rfl rfl)
   (lB (uj (i:=j) (n:=la) (Z:=(eK p c a j)) (Z':=(eK p c a (j+1))) (.tmp 16) (.tmp 17) (by kernel_rfl) ad ad (by omega) ad rfl (fun i h=>(OE h).symm) (OF.symm) rfl)
   (lB (cN ad (by omega) rfl (by omega) (by omega))
   aw))))))))⟩)
   (lB (tlF ad ad)
   aw)
   (fun q hq w v h=>by
    simp only [Bu,List.mem_cons,List.not_mem_nil,or_false] at hq
    rcases hq with rfl | rfl
    ·exact (fun h=>h) h
    ·exact (fun h=>h) h)) aw)))
theorem OK {p:Nat}{b:Nat->Int}{n i:Nat}{a:Nat->Int}{k:Nat} (hp:0<p) (ha:∀j,0<=a j∧a j<p) (j:Nat):0<=dq p b n i a k j∧dq p b n i a k j<p:=by
 unfold dq
 split
 ·exact ⟨Int.emod_nonneg _ (by omega),Int.emod_lt_of_pos _ (by omega)⟩
 ·exact ha j
section
variable {P:Program}{Φ:PH}{p p' q x m n n0 m0:Nat}{s0:Option Addr}
theorem OL {T e e':TypeId}{sz:Nat}{J:List Nat}{F:PH} (hT:P.underlying T=some (.slice e)) (hz:dJ P e=some sz) (hp:∀w v,Φ p w v->ah sz e' F n w v) (hp':∀w v,Φ p' w v->v = .slice s0 n0 m0) (hq:∀w v,Φ q w v->v = .int .i64 (m:Int)) (hm':m<=n) (hx:Φ x=cO s0 m0 sz F m):ai Φ P ⟨0,[.parts (.one .s) [(0,0,p),(0,0,p')],.fact q],[oS x],.iK J (dI T)⟩:=fun X w ac o xs hX hm ha=>by
 have hrow:∀{w1:World}{v:Value},Φ p w1 v->Φ p' w1 v->cO s0 m0 sz F n w1 v:=fun h1 h2=>by
  have h3:=hp' _ _ h2
  have h4:=(hp _ _ h1).rw
  refine ⟨?_,h4⟩
  obtain ⟨s,c,hv,_⟩:=h4
  rw [h3] at hv
  simp only [Value.slice.injEq] at hv
  rw [h3,hv.2.1]
 obtain ⟨u,w',h1,h2,h3⟩:=nC (Φ:=ph [cO s0 m0 sz F n,Ni (m:Int),cO s0 m0 sz F m]) (p:=0) (q:=1) (x:=2) (m:=m) (n:=n) (F:=F) hT hz ad ad hm' rfl X w ac o xs hX hm (by
  match xs.map ac.eval,ha with
  | [v,u],ha=>exact ⟨fun w1 hw=>hrow (ha.1.2 (0,0,p) (by simp) w1 hw) (ha.1.2 (0,0,p') (by simp) w1 hw),fun w1 hw=>hq _ _ (ha.2.1 w1 hw),trivial⟩)
 exact ⟨u,w',h1,h2,cJ h3.1.1 hx fun w1 hw=>h3.1.2 _ (List.mem_singleton.2 rfl) w1 hw⟩
end
def oe (a b:Nat->Int) (la n m p:Nat) (s0:Option Addr) (n0 m0:Nat) (w0:World):List WP:=[gB w0 (.slice s0 n0 m0),Rw 1 (au .u64 b) (n+1),Nu ((p:Nat):Int),ah 1 103 (au .u64 (bj p b n la a 0)) la,Nz (n+1),Nz n,b9 la,Nz la,Ni (((la:Nat):Int)-1),ah 1 103 (au .u64 (bj p b n la a m)) la,gB w0 (.slice s0 n0 m0),b9 la,Nz la,Nz (min n la),cO s0 m0 1 (au .u64 (bj p b n la a m)) (min n la),cO s0 m0 1 (au .u64 (bj p b n la a m)) (tl (bj p b n la a m) (min n la))]
def OM (a b:Nat->Int) (la n p:Nat) (s0:Option Addr) (n0 m0:Nat) (w0:World) (j k:Nat):List WP:=[Nz k,ah 1 103 (au .u64 (dq p b n (la-1-j) (bj p b n la a j) k)) la,fun _ _=>True,gB w0 (.slice s0 n0 m0),fun w v=>Ptr 1 (fun _ v=>v = .agg #[.int .u64 (b k)]) w v,Nu (b k),Nz (la-1-j-n),Nz (la-1-j-n+k),Nz (la-1-j-n),Nz (la-1-j-n+k),At 1,fun w v=>Ptr 1 (fun _ v=>v = .agg #[.int .u64 ((dq p b n (la-1-j) (bj p b n la a j) k) (la-1-j-n+k))]) w v,Nu ((dq p b n (la-1-j) (bj p b n la a j) k) (la-1-j-n+k)),Nu (((p:Int)-bj p b n la a j (la-1-j))*b k),Nu (dq p b n (la-1-j) (bj p b n la a j) k (la-1-j-n+k)+((p:Int)-bj p b n la a j (la-1-j))*b k),Nu ((dq p b n (la-1-j) (bj p b n la a j) k (la-1-j-n+k)+((p:Int)-bj p b n la a j (la-1-j))*b k) % (p:Int)),At 1,fun w v=>Ptr 1 (fun _ v=>v = .agg #[.int .u64 ((dq p b n (la-1-j) (bj p b n la a j) k) (la-1-j-n+k))]) w v,ah 1 103 (au .u64 (dq p b n (la-1-j) (bj p b n la a j) (k+1))) la,Nz (k+1)]
def BD:bg:=⟨[1,2,6,7,8,9,12,13,14,15,16,17,18,19,20,23,24,25,26,27,28,29,30],[(.slot 31,.i),(.slot 0,.s)],[(.one 0,28),(.one 1,.Ru [1] 29),(.one 1,.lo 1),(.one 1,31)],[.closed (.one (.ci .i64 0)),.frm 17,.frm 0,.frm 19],28,[(29,25),(31,26)]⟩
def BE:List Step:=[bQ [.fact 28,.fact 24] oT (ak .lss),
   bQ [.fact 1,.fact 28] [oP 32] (aG 126),
   bQ [.fact 32] [oK 33] (aM 103),
   bQ [.fact 16,.fact 5] [oN 34] (ak .sub),
   bQ [.fact 34,.fact 28] [oN 35] (ak .add),
   bQ [.fact 16,.fact 5] [oN 36] (ak .sub),
   bQ [.fact 36,.fact 28] [oN 37] (ak .add),
   .base ⟨0,[.fact 29,.fact 37],[oP 39],.joint [1] 38 (aG 126)⟩,
   .base ⟨0,[.fact 39],[oK 40],.dd [1] (aM 103)⟩,
   bQ [.fact 23,.fact 33] [oK 41] (aA .mul),
   bQ [.fact 40,.fact 41] [oK 42] (aA .add),
   bQ [.fact 42,.fact 2] [oK 43] (aA .rem),
   .base ⟨0,[.fact 29,.fact 35],[oP 45],.joint [1] 44 (aG 126)⟩,
   .base ⟨0,[.fact 29,.fact 35,.any,.fact 43],[oS 46],.put [] 1 0 44 (dV 103 (.tmp 36) (.tmp 41))⟩,
   bQ [.fact 28,.lit (.ci .i64 1)] [oN 47] (ak .add)]
def ON:List Step:=[bQ [.fact 28,.fact 24] oF (ak .lss)]
def uB (a b:Nat->Int) (la n p:Nat) (s0:Option Addr) (n0 m0:Nat) (w0:World) (j:Nat):List WP:=[Ni (((la:Nat):Int)-1-((j:Nat):Int)),ah 1 103 (au .u64 (bj p b n la a j)) la,fun _ _=>True,gB w0 (.slice s0 n0 m0),At 1,fun w v=>Ptr 1 (fun _ v=>v = .agg #[.int .u64 ((bj p b n la a j) (la-1-j))]) w v,Nu ((bj p b n la a j) (la-1-j)),Nu ((p:Int)-bj p b n la a j (la-1-j)),Nz (n+1),ah 1 103 (au .u64 (bj p b n la a (j+1))) la,gB w0 (.slice s0 n0 m0),Ni ((((la:Nat):Int)-1-((j:Nat):Int))-1)]
def BF:bg:=⟨[1,2,6,7,12,13,14,15,16,17],[(.slot 8,.i),(.slot 0,.s)],[(.one 0,16),(.one 1,.Ru [1] 17),(.one 1,.lo 1),(.one 1,19)],[.frm 8,.frm 3,.frm 0,.frm 0],16,[(17,9),(19,10)]⟩
def BH:List Step:=[bQ [.fact 16,.fact 5] oT (ak .geq),
   .base ⟨0,[.fact 17,.fact 16],[oP 21],.joint [1] 20 (aG 126)⟩,
   .base ⟨0,[.fact 21],[oK 22],.dd [1] (aM 103)⟩,
   bQ [.fact 2,.fact 22] [oK 23] (aA .sub),
   bQ [.fact 1] [oN 24] (aD 126),
   .loop BD [(BE,[.frm 47,.frm 46,.frm 0,.frm 31])] ON,
   bQ [.fact 16,.lit (.ci .i64 1)] [oN 27] (ak .sub)]
def OP:List Step:=[bQ [.fact 16,.fact 5] oF (ak .geq)]
def OQ:List Step:=[bQ [.fact 1] [oN 4] (aD 126),
   bQ [.fact 4,.lit (.ci .i64 1)] [oN 5] (ak .sub),
   .freed (.one (.s 0 0)) 3 6,
   bQ [.fact 6] [oN 7] (aD 126),
   bQ [.fact 7,.lit (.ci .i64 1)] [oN 8] (ak .sub),
   .loop BF [(BH,[.frm 27,.frm 25,.frm 0,.frm 26])] OP,
   .freed (.one (.s 10 1)) 9 11,
   bQ [.fact 11] [oN 12] (aD 126),
   bQ [.fact 5,.fact 12] [oN 13] (gm .min),
   .base ⟨0,[.parts (.one .s) [(0,0,9),(0,0,10)],.fact 13],[oS 14],.iK [1] (dI 126)⟩,
   .base ⟨138,[.fact 14],[oS 15],.cE [1] false⟩]
def BI:List Out:=[oS 0,oS 1,oK 2]
theorem OR {a b:Nat->Int}{la n m p:Nat}{s0:Option Addr}{n0 m0:Nat}{w0:World} (hla:la<=1000000) (hn:n<=1000000) (hm:m=la-n) (hp0:0<p) (eJ:p<2147483648) (ha:∀j,0<=a j∧a j<p) (hb:∀j,0<=b j∧b j<p):uA (ph (oe a b la n m p s0 n0 m0 w0)) Tryz.prog 137 BI 3 [9] [oS 15] (.slice s0 n0 m0) w0:=by
 skip
 exact Bz BI [oS 15] 3 10 [9] OQ rfl Tryz.func137 (by kernel_rfl)
  (lB (aP (F:=(au .u64 b)) Tryz.underlying126 ad rfl)
   (lB (bK ad (by omega) rfl (by omega) (by omega))
   (cV (cW (e:=103) (sz:=1) (n:=la) (F:=(au .u64 (bj p b n la a 0))) ad rfl)
   (lB (ce (n:=la) Tryz.underlying126 ad rfl)
   (lB (bK ad (rfl) rfl (by omega) (by omega))
   (bz (counted m (fun j=>ph (oe a b la n m p s0 n0 m0 w0 ++ uB a b la n p s0 n0 m0 w0 j)) (fun _=>0) (fun j p hp=>bB (show p<(oe a b la n m p s0 n0 m0 w0).length from hp)) ⟨fun _ _ h=>h.trans (congrArg (Value.int .i64) (by omega)),ad,aS,ad,trivial⟩ (fun j hj=>by
   have h1:=nH (b:=b) (n:=n) (l:=la) (a:=a) hp0 ha j (la-1-j)
   exact ⟨(BH,[.frm 27,.frm 25,.frm 0,.frm 26]),rfl,⟨fun _ _ h=>h.trans (congrArg (Value.int .i64) (by omega)),ad,aS,ad,trivial⟩,(lB (OS ad ad)
   (lB (bI (i:=(la-1-j)) (sz:=1) (n:=la) (F:=(au .u64 (bj p b n la a j))) Tryz.underlying126 (by kernel_rfl) (fun _ _ h=>ah.arr h) (fun _ _ h=>h.trans (congrArg (Value.int .i64) (by omega))) (by omega) rfl rfl)
   (lB (n6 (by kernel_rfl) ad rfl)
   (lB (bk (op:=.sub) ad ad (eu rfl (by omega) (by omega) (by omega)) rfl)
   (lB (aP (F:=(au .u64 b)) Tryz.underlying126 ad rfl)
   (bz (counted (n+1) (fun k=>ph ((oe a b la n m p s0 n0 m0 w0 ++ uB a b la n p s0 n0 m0 w0 j) ++ OM a b la n p s0 n0 m0 w0 j k)) (fun _=>0) (fun k p hp=>bB (show p<(oe a b la n m p s0 n0 m0 w0 ++ uB a b la n p s0 n0 m0 w0 j).length from hp)) ⟨fun _=>rfl,fun _ _ h=>ah.to (sz:=1) (e:=103) (n:=la) (F:=(au .u64 (bj p b n la a j))) (G:=(au .u64 (dq p b n (la-1-j) (bj p b n la a j) 0))) h fun i w v hi h=>by rw [au,IR];exact h,aS,ad,trivial⟩ (fun k hk=>by
   have h1:=nH (b:=b) (n:=n) (l:=la) (a:=a) hp0 ha j (la-1-j);have h2:=n5 (a:=(p:Int)-bj p b n la a j (la-1-j)) (b:=b k) ⟨by omega,by omega⟩ ⟨(hb k).1,by have:=(hb k).2;omega⟩;have h4:=OK (b:=b) (n:=n) (i:=la-1-j) (k:=k) hp0 (nH (b:=b) (n:=n) (l:=la) (a:=a) hp0 ha j) (la-1-j-n+k)
   exact ⟨(BE,[.frm 47,.frm 46,.frm 0,.frm 31]),rfl,⟨ad,ad,aS,ad,trivial⟩,(lB (cU ad ad)
   (lB (bZ (i:=k) (F:=(au .u64 b)) Tryz.underlying126 (by kernel_rfl) ad ad (by omega) rfl)
   (lB (gA (by kernel_rfl) ad rfl)
   (lB (mn ad ad (by omega) rfl (by omega) (by omega))
   (lB (fm ad ad (by omega) rfl (by omega) (by omega))
   (lB (mn ad ad (by omega) rfl (by omega) (by omega))
   (lB (fm ad ad (by omega) rfl (by omega) (by omega))
   (lB (bI (i:=(la-1-j-n+k)) (sz:=1) (n:=la) (F:=(au .u64 (dq p b n (la-1-j) (bj p b n la a j) k))) Tryz.underlying126 (by kernel_rfl) (fun _ _ h=>ah.arr h) ad (by omega) rfl rfl)
   (lB (n6 (by kernel_rfl) ad rfl)
   (lB (bk (op:=.mul) ad ad (jc rfl (by omega) (hb k).1 (by omega)) rfl)
   (lB (bk (op:=.add) ad ad (lp rfl (by omega) (by omega) (by omega)) rfl)
   (lB (bk (op:=.rem) ad ad (d8 rfl (by omega) (by omega)) rfl)
   (lB (bI (i:=(la-1-j-n+k)) (sz:=1) (n:=la) (F:=(au .u64 (dq p b n (la-1-j) (bj p b n la a j) k))) Tryz.underlying126 (by kernel_rfl) (fun _ _ h=>ah.arr h) ad (by omega) rfl rfl)
   (lB (uj (i:=(la-1-j-n+k)) (n:=la) (Z:=(dq p b n (la-1-j) (bj p b n la a j) k)) (Z':=(dq p b n (la-1-j) (bj p b n la a j) (k+1))) (.tmp 36) (.tmp 41) (by kernel_rfl) ad ad (by omega) ad rfl (fun i h=>(IS (by omega) h).symm) (IT (by omega)) rfl)
   (lB (cN ad (by omega) rfl (by omega) (by omega))
   aw)))))))))))))))⟩)
   (lB (tlF ad ad)
   aw)
   (fun q hq w v h=>by
    simp only [BD,List.mem_cons,List.not_mem_nil,or_false] at hq
    rcases hq with rfl | rfl
    ·exact (fun h=>by have h':ah 1 103 (au .u64 (dq p b n (la-1-j) (bj p b n la a j) (n+1))) la w v:=h;rw [IU] at h';exact h') h
    ·exact (fun h=>h) h)) (lB (bK ad (rfl) rfl (by omega) (by omega))
   aw)))))))⟩)
   (lB (thF ad ad)
   aw)
   (fun q hq w v h=>by
    simp only [BF,List.mem_cons,List.not_mem_nil,or_false] at hq
    rcases hq with rfl | rfl
    ·exact (fun h=>h) h
    ·exact (fun h=>h) h)) (cV (cW (e:=103) (sz:=1) (n:=la) (F:=(au .u64 (bj p b n la a m))) ad rfl)
   (lB (ce (n:=la) Tryz.underlying126 ad rfl)
   (lB (xP ad ad (by split <;> omega) rfl)
   (lB (OL (m:=(min n la)) (n:=la) (F:=(au .u64 (bj p b n la a m))) Tryz.underlying126 (by kernel_rfl) ad (fun _ _ h=>h.1) ad (by omega) rfl)
   (lB (de [1] (Bp (z:=(bj p b n la a m)) (n:=(min n la)) ad rfl (by omega)))
   aw)))))))))))
theorem mF {a:Int} (h0 : -9223372036854775808<=a) (h1:a<=9223372036854775807):IntKind.i64.wrap a=a:=IntWalk.i64_in _ ⟨h0,h1⟩
def OT (x:Int) (p:Nat):List WP:=[Nu x,Nu ((p:Nat):Int),Nu ((p:Int) / 2),Ni x,Nz p,Ni (x-(p:Int)),Nw (x-(p:Int)) 2]
def OU:List Step:=[bQ [.fact 1,.lit (.ci .u64 2)] [oK 2] (aA .quo),
   bQ [.fact 0,.fact 2] oT (aA .gtr),
   bQ [.fact 0] [oN 3] (gz 103 3),
   bQ [.fact 1] [oN 4] (gz 103 3),
   bQ [.fact 3,.fact 4] [oN 5] (ak .sub),
   .base ⟨59,[.fact 5],[oI 6],false⟩]
def OV:List Out:=[oK 0,oK 1]
theorem OW {x:Int}{p:Nat} (hx0:0<=x) (hxp:x<p) (hp0:0<p) (eJ:p<2147483648) (hx:(p:Int) / 2<x):ai (ph (OT x p)) Tryz.prog ⟨139,[.fact 0,.fact 1],[oI 6],false⟩:=by
 skip
 exact aV OV [oI 6] OU Tryz.func139 (by kernel_rfl)
  (lB (cm (op:=.quo) ad (jd rfl (by omega) (by omega) (by omega)) rfl)
   (lB (jH (op:=.gtr) ad ad (bT (decide_eq_true (by omega)) (by simp)))
   (lB (mC (by kernel_rfl) Tryz.underlying3 ad (mF (by omega) (by omega)) rfl)
   (lB (mC (by kernel_rfl) Tryz.underlying3 ad (mF (by omega) (by omega)) rfl)
   (lB (mn ad ad (rfl) rfl (by omega) (by omega))
   (lB (lA ad rfl (by omega) (by omega) rfl)
   aw))))))
  (aL [.fact 0 (.one (.nk)),.fact 1 (.one (.nk))] ⟨fun _ _ h=>h▸cA _ _,fun _ _ h=>h▸cA _ _,trivial⟩) (fun _ _ _ h=>h)
def OZ (x:Int) (p:Nat):List WP:=[Nu x,Nu ((p:Nat):Int),Nu ((p:Int) / 2),Ni x,Nw x 2]
def O0:List Step:=[bQ [.fact 1,.lit (.ci .u64 2)] [oK 2] (aA .quo),
   bQ [.fact 0,.fact 2] oF (aA .gtr),
   bQ [.fact 0] [oN 3] (gz 103 3),
   .base ⟨59,[.fact 3],[oI 4],false⟩]
def O3:List Out:=[oK 0,oK 1]
theorem O4 {x:Int}{p:Nat} (hx0:0<=x) (hxp:x<p) (hp0:0<p) (eJ:p<2147483648) (hx:¬(p:Int) / 2<x):ai (ph (OZ x p)) Tryz.prog ⟨139,[.fact 0,.fact 1],[oI 4],false⟩:=by
 skip
 exact aV O3 [oI 4] O0 Tryz.func139 (by kernel_rfl)
  (lB (cm (op:=.quo) ad (jd rfl (by omega) (by omega) (by omega)) rfl)
   (lB (jH (op:=.gtr) ad ad (bT (decide_eq_false (by omega)) (by simp)))
   (lB (mC (by kernel_rfl) Tryz.underlying3 ad (mF (by omega) (by omega)) rfl)
   (lB (lA ad rfl (by omega) (by omega) rfl)
   aw))))
  (aL [.fact 0 (.one (.nk)),.fact 1 (.one (.nk))] ⟨fun _ _ h=>h▸cA _ _,fun _ _ h=>h▸cA _ _,trivial⟩) (fun _ _ _ h=>h)
section
variable {Φ:PH}{p q y P:Nat}{x:Int}
theorem uC (hp:∀w v,Φ p w v->v = .int .u64 x) (hq:∀w v,Φ q w v->v = .int .u64 ((P:Nat):Int)) (hy:Φ y=Nw (bD P x) 2) (hx0:0<=x) (hxp:x<P) (hP:0<P) (dN:P<2147483648):ai Φ Tryz.prog ⟨139,[.fact p,.fact q],[oI y],false⟩:=by
 by_cases h:(P:Int) / 2<x
 ·exact aW (OW hx0 hxp hP dN h) ⟨hp,hq,trivial⟩ ⟨⟨rfl,⟨rfl,rfl,fun _ _ h'=>by rw [hy,bD,if_pos h];exact h'⟩,trivial⟩,trivial⟩
 ·exact aW (O4 hx0 hxp hP dN h) ⟨hp,hq,trivial⟩ ⟨⟨rfl,⟨rfl,rfl,fun _ _ h'=>by rw [hy,bD,if_neg h];exact h'⟩,trivial⟩,trivial⟩
end
theorem og {p:Nat}{x:Int} (hp:1<p):0<=bL p x∧bL p x<p:=by
 unfold bL
 have:=Nat.mod_lt (x.toNat ^ (p-2)) (show 0<p by omega)
 omega
theorem O5 {p:Nat}{b:Nat->Int}{l:Nat} (hp:1<p) (i:Nat):0<=fF p b l i∧fF p b l i<p:=ib (by omega) _ _ i
theorem BJ {s:Option Addr}{n m c:Nat}:blk (.slice s n c)=blk (.slice s m c):=by cases s <;> rfl
section
variable {Φ:PH}{p q r s x y la lb P:Nat}{S:Nat->Prop}{a b:Nat->Int}{c:Int}
theorem oh {Z:Nat->Int}{k:IntKind}:∀(i:Nat) (w w1:World) (v:Value),Kp w w1->au k Z i w v->au k Z i w1 v:=fun _ _ _ _ _ h=>h
theorem uD {js:List Nat} (_hjs:js ≠ []) (hp:∀w v,Φ p w v->ah 1 103 (au .u64 a) la w v) (hs:∀w v,Φ s w v->fz S w v) (hq:∀w v,Φ q w v->v = .int .u64 c) (hr:∀w v,Φ r w v->v = .int .u64 ((P:Nat):Int)) (hx:Φ x=ah 1 103 (au .u64 (scl P c a)) la) (hy:Φ y=fz S)
  (hla:la<=1000000) (hP:0<P) (dN:P<2147483648) (hc:0<=c∧c<P) (ha:∀j,0<=a j∧a j<P):ai Φ Tryz.prog ⟨119,[.parts (.one .s) [(0,0,p),(0,0,s)],.fact q,.fact r],[⟨.one .s,[(0,0,x),(0,0,y)]⟩],.cI js js [(js,js),([],[]),([],[])] false⟩:=fun X L W0 w vs hgr hX hL hLX hone hag=>by
 match vs,hag with
 | [v,u1,u2],hag=>
  obtain ⟨⟨⟨hsh,hv⟩,hlo⟩,⟨h1,-⟩,⟨h2,-⟩,-⟩:=hag
  have hA:∀w1,Off (fun k=>X k∨∃j,j ∈ js∧j ∉ js∧L j k) w w1->ah 1 103 (au .u64 a) la w1 v:=fun w1 hw=>hp _ _ (hv (0,0,p) (by simp) w1 hw)
  have hI:fz S w v:=hs _ _ (hv (0,0,s) (by simp) w (Off.refl _ _))
  have hA0:=hA w (Off.refl _ _)
  obtain ⟨s0,c0,rfl,_⟩:=hA0.rw
  have gC:=hlo _hjs
  refine (OJ (s0:=s0) (n0:=la) (m0:=c0) (w0:=w) hla hP dN hc ha W0 [.slice s0 la c0,u1,u2] rfl hgr ⟨⟨⟨⟨_,_,_,rfl⟩,fun _ h=>by cases h⟩,fun c' hc' w1 hw=>?_⟩,⟨?_,fun c' hc' w1 hw=>?_⟩,⟨?_,fun c' hc' w1 hw=>?_⟩,trivial⟩ (fun g hg=>?_) (fun w1 hk hh=>?_)).mono fun e w' ⟨u,he,jI,hkp,ho,hqs⟩=>?_
  ·rw [List.mem_singleton.1 hc']
   exact gB.off hw
  ·rw [hq _ _ (h1 w (Off.refl _ _))];exact cA _ _
  ·rw [List.mem_singleton.1 hc']
   exact hq _ _ (h1 w (Off.refl _ _))
  ·rw [hr _ _ (h2 w (Off.refl _ _))];exact cA _ _
  ·rw [List.mem_singleton.1 hc']
   exact hr _ _ (h2 w (Off.refl _ _))
  ·obtain ⟨j,_,hj⟩:=gC g hg
   exact hL j g hj
  ·have h:=ah.off (X:=fun _=>False) oh hA0 ⟨hk,fun k hk' _=>hh k hk'⟩ (fun _ _ x=>x)
   exact h.to fun i w v hi h=>by rw [au,uy (Nat.zero_le _)];exact h
  ·have hu:u = .slice s0 la c0:=(ho.1.2 _ (List.mem_singleton.2 rfl) w' (Off.refl _ _)).1
   subst hu
   have hres:ah 1 103 (au .u64 (eK P c a la)) la w' (.slice s0 la c0):=hqs _ (List.mem_singleton.2 rfl)
   have hres':ah 1 103 (au .u64 (scl P c a)) la w' (.slice s0 la c0):=hres.to fun i w v hi h=>by
    rw [au,eK,if_pos hi] at h
    exact h
   refine ⟨[.slice s0 la c0],he,⟨⟨jI.os,jI.tape,jI.output⟩,hkp,fun k hk hn=>jI.block k hk fun e=>?_⟩,⟨⟨⟨⟨_,_,_,rfl⟩,fun _ h=>by cases h⟩,fun r hr w1 hw=>?_⟩,trivial⟩,fun u hu g hg=>?_⟩
   ·obtain ⟨j,h1,h2⟩:=gC k e.symm
    exact hn ⟨j,h1,h2⟩
   ·simp only [List.mem_cons,List.not_mem_nil,or_false] at hr
    rcases hr with rfl | rfl
    ·show Φ x w1 _
     rw [hx]
     refine ah.off oh hres' hw fun g hg h=>?_
     obtain ⟨j,h1,h2⟩:=gC g hg
     rcases h with h | ⟨i,h3,h4,h5⟩
     ·exact hLX j g h1 h2 h
     ·exact h4 h3
    ·show Φ y w1 _
     rw [hy]
     exact hI
   ·obtain rfl:Value.slice s0 la c0=u:=Option.some.inj hu
    exact gC g hg
theorem O6 {ja jb:Nat} (hab:ja≠jb) (hp:∀w v,Φ p w v->ah 1 103 (au .u64 a) la w v) (hs:∀w v,Φ s w v->fz S w v) (hq:∀w v,Φ q w v->Rw 1 (au .u64 b) lb w v) (hr:∀w v,Φ r w v->v = .int .u64 ((P:Nat):Int)) (hx:Φ x=ah 1 103 (au .u64 (bj P b (lb-1) la a (la-(lb-1)))) (tl (bj P b (lb-1) la a (la-(lb-1))) (min (lb-1) la))) (hy:Φ y=fz S)
  (hla:la<=1000000) (hlb:lb<=1000000) (ks:0<lb) (hP:0<P) (dN:P<2147483648) (ha:∀j,0<=a j∧a j<P) (hb:∀j,0<=b j∧b j<P):ai Φ Tryz.prog ⟨137,[.parts (.one .s) [(0,0,p),(0,0,s)],.fact q,.fact r],[⟨.one .s,[(0,0,x),(0,0,y)]⟩],.cI [ja,jb] [ja] [([ja],[ja]),([jb],[]),([],[])] false⟩:=fun X L W0 w vs hgr hX hL hLX hone hag=>by
 match vs,hag with
 | [v,u1,u2],hag=>
  obtain ⟨⟨⟨hsh,hv⟩,hlo⟩,⟨h1,-⟩,⟨h2,-⟩,-⟩:=hag
  have hA0:ah 1 103 (au .u64 a) la w v:=hp _ _ (hv (0,0,p) (by simp) w (Off.refl _ _))
  have hI:fz S w v:=hs _ _ (hv (0,0,s) (by simp) w (Off.refl _ _))
  obtain ⟨s0,c0,rfl,_⟩:=hA0.rw
  have gC:∀g,blk (.slice s0 la c0)=some g->L ja g:=fun g hg=>by
   obtain ⟨j,h3,h4⟩:=hlo (by simp) g hg
   rw [List.mem_singleton.1 h3] at h4
   exact h4
  have hB:∀w1,Off (fun k=>blk (.slice s0 la c0)=some k) w w1->Rw 1 (au .u64 b) (lb-1+1) w1 u1:=fun w1 hw=>by
   rw [show lb-1+1=lb by omega]
   refine hq _ _ (h1 w1 (hw.wide fun k hk=>.inr ⟨ja,List.mem_cons_self ..,fun h=>?_,gC k hk⟩))
   exact hab (List.mem_singleton.1 h)
  refine (OR (s0:=s0) (n0:=la) (m0:=c0) (w0:=w) (n:=lb-1) (m:=la-(lb-1)) hla (by omega) rfl hP dN ha hb W0 [.slice s0 la c0,u1,u2] rfl hgr ⟨⟨⟨⟨_,_,_,rfl⟩,fun _ h=>by cases h⟩,fun c' hc' w1 hw=>?_⟩,⟨Rw.is (hB w (Off.refl _ _)),fun c' hc' w1 hw=>?_⟩,⟨?_,fun c' hc' w1 hw=>?_⟩,trivial⟩ (fun g hg=>?_) (fun w1 hk hh=>?_)).mono fun e w' ⟨u,he,jI,hkp,ho,hqs⟩=>?_
  ·rw [List.mem_singleton.1 hc']
   exact gB.off hw
  ·rw [List.mem_singleton.1 hc']
   exact hB w1 hw
  ·rw [hr _ _ (h2 w (Off.refl _ _))];exact cA _ _
  ·rw [List.mem_singleton.1 hc']
   exact hr _ _ (h2 w (Off.refl _ _))
  ·exact hL ja g (gC g hg)
  ·exact ah.off (X:=fun _=>False) oh hA0 ⟨hk,fun k hk' _=>hh k hk'⟩ (fun _ _ x=>x)
  ·obtain ⟨hu,-⟩:u = .slice s0 (tl (bj P b (lb-1) la a (la-(lb-1))) (min (lb-1) la)) c0∧_:=ho.1.2 _ (List.mem_singleton.2 rfl) w' (Off.refl _ _)
   subst hu
   have hres:ah 1 103 (au .u64 (bj P b (lb-1) la a (la-(lb-1)))) la w' (.slice s0 la c0):=hqs _ (List.mem_singleton.2 rfl)
   have hres':=hres.take (m:=tl (bj P b (lb-1) la a (la-(lb-1))) (min (lb-1) la)) (by
    have:=aF (bj P b (lb-1) la a (la-(lb-1))) (min (lb-1) la)
    omega)
   have hb':∀g,blk (.slice s0 (tl (bj P b (lb-1) la a (la-(lb-1))) (min (lb-1) la)) c0)=some g->L ja g:=fun g hg=>gC g (by rw [BJ];exact hg)
   refine ⟨[_],he,⟨⟨jI.os,jI.tape,jI.output⟩,hkp,fun k hk hn=>jI.block k hk fun e=>hn ⟨ja,List.mem_singleton.2 rfl,gC k e.symm⟩⟩,⟨⟨⟨⟨_,_,_,rfl⟩,fun _ h=>by cases h⟩,fun r hr w1 hw=>?_⟩,trivial⟩,fun u hu g hg=>?_⟩
   ·simp only [List.mem_cons,List.not_mem_nil,or_false] at hr
    rcases hr with rfl | rfl
    ·show Φ x w1 _
     rw [hx]
     refine ah.off oh hres' hw fun g hg h=>?_
     have h3:=hb' g hg
     rcases h with h | ⟨i,h4,h5,h6⟩
     ·exact hLX ja g (List.mem_cons_self ..) h3 h
     ·exact h5 (List.mem_singleton.2 (hone i ja g h6 h3))
    ·show Φ y w1 _
     rw [hy]
     exact fun g hg=>hI g (by rw [BJ];exact hg)
   ·obtain rfl:=Option.some.inj hu
    exact ⟨ja,List.mem_singleton.2 rfl,hb' g hg⟩
end
def uE (a b:Nat->Int) (la lb J p:Nat) (S:Nat->Prop) (w0:World):List WP:=[ah 1 103 (au .u64 a) la,fz S,ah 1 103 (au .u64 b) lb,fz S,Nu ((p:Nat):Int),BK w0 S,ah 1 103 (au .u64 ((euS p a la b lb J).1.1)) ((euS p a la b lb J).1.2),fz S,b9 ((euS p a la b lb J).1.2),Ni (((euS p a la b lb J).1.2:Nat):Int),Ni (((euS p a la b lb J).1.2-1:Nat):Int),At 1,fun w v=>Ptr 1 (fun _ v=>v = .agg #[.int .u64 ((euS p a la b lb J).1.1 ((euS p a la b lb J).1.2-1))]) w v,Nu ((euS p a la b lb J).1.1 ((euS p a la b lb J).1.2-1)),Nu (bL p ((euS p a la b lb J).1.1 ((euS p a la b lb J).1.2-1))),ah 1 103 (au .u64 (scl p (bL p ((euS p a la b lb J).1.1 ((euS p a la b lb J).1.2-1))) ((euS p a la b lb J).1.1))) ((euS p a la b lb J).1.2),fz S]
def O7 (a b:Nat->Int) (la lb p:Nat) (S:Nat->Prop) (j:Nat):List WP:=[ah 1 103 (au .u64 ((euS p a la b lb j).1.1)) ((euS p a la b lb j).1.2),fz S,fun _ _=>True,ah 1 103 (au .u64 ((euS p a la b lb j).2.1)) ((euS p a la b lb j).2.2),fz S,fun _ _=>True,b9 ((euS p a la b lb j).2.2),Ni (((euS p a la b lb j).2.2:Nat):Int),Ni (((euS p a la b lb j).2.2:Nat):Int),Ni (((euS p a la b lb j).2.2-1:Nat):Int),At 1,fun w v=>Ptr 1 (fun _ v=>v = .agg #[.int .u64 ((euS p a la b lb j).2.1 ((euS p a la b lb j).2.2-1))]) w v,Nu ((euS p a la b lb j).2.1 ((euS p a la b lb j).2.2-1)),Nu (bL p ((euS p a la b lb j).2.1 ((euS p a la b lb j).2.2-1))),ah 1 103 (au .u64 (scl p (bL p ((euS p a la b lb j).2.1 ((euS p a la b lb j).2.2-1))) ((euS p a la b lb j).2.1))) ((euS p a la b lb j).2.2),fz S,ah 1 103 (au .u64 (bj p (scl p (bL p ((euS p a la b lb j).2.1 ((euS p a la b lb j).2.2-1))) ((euS p a la b lb j).2.1)) ((euS p a la b lb j).2.2-1) ((euS p a la b lb j).1.2) ((euS p a la b lb j).1.1) ((euS p a la b lb j).1.2-((euS p a la b lb j).2.2-1)))) (tl (bj p (scl p (bL p ((euS p a la b lb j).2.1 ((euS p a la b lb j).2.2-1))) ((euS p a la b lb j).2.1)) ((euS p a la b lb j).2.2-1) ((euS p a la b lb j).1.2) ((euS p a la b lb j).1.1) ((euS p a la b lb j).1.2-((euS p a la b lb j).2.2-1))) (min ((euS p a la b lb j).2.2-1) ((euS p a la b lb j).1.2))),fz S,b9 ((euS p a la b lb j).2.2),Ni (((euS p a la b lb j).2.2:Nat):Int)]
def BL:bg:=⟨[2,6],[(.slot 0,.s),(.slot 1,.s)],[(.one 0,.Ru [2] 17),(.one 0,.Ru [2] 18),(.one 0,.lo 2),(.one 1,.Ru [3] 20),(.one 1,.Ru [3] 21),(.one 1,.lo 3)],[.frm 0,.frm 1,.frm 0,.frm 2,.frm 3,.frm 0],17,[(17,6),(18,7)]⟩
def BM:List Step:=[.freed (.one (.s 2 1)) 20 23,
   bQ [.fact 23] [oN 24] (aD 126),
   bQ [.fact 24,.lit (.ci .i64 0)] oT (ak .gtr),
   bQ [.fact 23] [oN 25] (aD 126),
   bQ [.fact 25,.lit (.ci .i64 1)] [oN 26] (ak .sub),
   .base ⟨0,[.fact 20,.fact 26],[oP 28],.joint [3] 27 (aG 126)⟩,
   .base ⟨0,[.fact 28],[oK 29],.dd [3] (aM 103)⟩,
   .base ⟨136,[.fact 29,.fact 4],[oK 30],false⟩,
   .base ⟨119,[.parts (.one .s) [(0,0,20),(0,0,21)],.fact 30,.fact 4],[⟨.one (.s),[(0,0,31),(0,0,32)]⟩],.cI [3] [3] [([3],[3]),([],[]),([],[])] false⟩,
   .swap 2 3,
   .base ⟨137,[.parts (.one .s) [(0,0,17),(0,0,18)],.fact 31,.fact 4],[⟨.one (.s),[(0,0,33),(0,0,34)]⟩],.cI [3,2] [3] [([3],[3]),([2],[]),([],[])] false⟩]
def O8:List Step:=[.freed (.one (.s 2 1)) 20 35,
   bQ [.fact 35] [oN 36] (aD 126),
   bQ [.fact 36,.lit (.ci .i64 0)] oF (ak .gtr)]
def O9:List Step:=[.loop BL [(BM,[.frm 31,.frm 32,.frm 0,.frm 33,.frm 34,.frm 0])] O8,
   .freed (.one (.s 2 0)) 6 8,
   bQ [.fact 8] [oN 9] (aD 126),
   bQ [.fact 9,.lit (.ci .i64 1)] [oN 10] (ak .sub),
   .base ⟨0,[.fact 6,.fact 10],[oP 12],.joint [2] 11 (aG 126)⟩,
   .base ⟨0,[.fact 12],[oK 13],.dd [2] (aM 103)⟩,
   .base ⟨136,[.fact 13,.fact 4],[oK 14],false⟩,
   .base ⟨119,[.parts (.one .s) [(0,0,6),(0,0,7)],.fact 14,.fact 4],[⟨.one (.s),[(0,0,15),(0,0,16)]⟩],.cI [2] [2] [([2],[2]),([],[]),([],[])] false⟩]
def BN:List Out:=[⟨.one (.s),[(0,0,0),(0,0,1)]⟩,⟨.one (.s),[(0,0,2),(0,0,3)]⟩,oK 4]
theorem Pa {a b:Nat->Int}{la lb J p:Nat}{S:Nat->Prop}{w0:World} (hp0:1<p) (eJ:p<2147483648) (hS:∀j,j<=J->(∀i,0<=(euS p a la b lb j).1.1 i∧(euS p a la b lb j).1.1 i<p)∧(∀i,0<=(euS p a la b lb j).2.1 i∧(euS p a la b lb j).2.1 i<p)∧(euS p a la b lb j).1.2<=1000000∧(euS p a la b lb j).2.2<=1000000) (hJ:∀j,j<J->0<(euS p a la b lb j).2.2) (hJ0:(euS p a la b lb J).2.2=0) (hJl:0<(euS p a la b lb J).1.2):BO (ph (uE a b la lb J p S w0)) Tryz.prog 116 BN [([2],[2]),([3],[3]),([],[])] [⟨.one (.s),[(0,0,15),(0,0,16)]⟩] S w0:=by
 have hr:=hS J (Nat.le_refl _);have hv:=hr.1 ((euS p a la b lb J).1.2-1);have hi:=og (x:=(euS p a la b lb J).1.1 ((euS p a la b lb J).1.2-1)) hp0
 exact Pb BN [([2],[2]),([3],[3]),([],[])] [⟨.one (.s),[(0,0,15),(0,0,16)]⟩] 5 O9 rfl Tryz.func116 (by kernel_rfl)
  (bz (counted J (fun j=>ph (uE a b la lb J p S w0 ++ O7 a b la lb p S j)) (fun _=>0) (fun j p hp=>bB (show p<(uE a b la lb J p S w0).length from hp)) ⟨ad,ad,aS,ad,ad,aS,trivial⟩ (fun j hj=>by
   have hr:=hS j (by omega);have hlb:=hJ j hj;have hB:=O5 (b:=(euS p a la b lb j).2.1) (l:=(euS p a la b lb j).2.2) hp0;have hv:=hr.2.1 ((euS p a la b lb j).2.2-1);have hi:=og (x:=(euS p a la b lb j).2.1 ((euS p a la b lb j).2.2-1)) hp0
   exact ⟨(BM,[.frm 31,.frm 32,.frm 0,.frm 33,.frm 34,.frm 0]),rfl,⟨ad,ad,aS,ad,ad,aS,trivial⟩,(cV (cW (e:=103) (sz:=1) (n:=(euS p a la b lb j).2.2) (F:=(au .u64 ((euS p a la b lb j).2.1))) ad rfl)
   (lB (ce (n:=(euS p a la b lb j).2.2) Tryz.underlying126 ad rfl)
   (lB (d3 ad)
   (lB (ce (n:=(euS p a la b lb j).2.2) Tryz.underlying126 ad rfl)
   (lB (bK ad (by omega) rfl (by omega) (by omega))
   (lB (bI (i:=((euS p a la b lb j).2.2-1)) (sz:=1) (n:=(euS p a la b lb j).2.2) (F:=(au .u64 ((euS p a la b lb j).2.1))) Tryz.underlying126 (by kernel_rfl) (fun _ _ h=>ah.arr h) ad (by omega) rfl rfl)
   (lB (n6 (by kernel_rfl) ad rfl)
   (lB (n9 (P:=p) (a:=((euS p a la b lb j).2.1 ((euS p a la b lb j).2.2-1))) ad ad rfl hv.1 (by omega) (by omega) (by omega))
   (lB (uD (P:=p) (S:=S) (a:=(euS p a la b lb j).2.1) (c:=(bL p ((euS p a la b lb j).2.1 ((euS p a la b lb j).2.2-1)))) (la:=(euS p a la b lb j).2.2) (by decide) ad ad ad ad rfl rfl (by omega) (by omega) (by omega) ⟨hi.1,hi.2⟩ hr.2.1)
   (Pc (lB (O6 (P:=p) (S:=S) (a:=(euS p a la b lb j).1.1) (b:=(scl p (bL p ((euS p a la b lb j).2.1 ((euS p a la b lb j).2.2-1))) ((euS p a la b lb j).2.1))) (la:=(euS p a la b lb j).1.2) (lb:=(euS p a la b lb j).2.2) (by decide) ad ad (fun _ _ h=>ah.rw h) ad rfl rfl (by omega) (by omega) (by omega) (by omega) (by omega) hr.1 hB)
   aw)))))))))))⟩)
   (cV (cW (e:=103) (sz:=1) (n:=(euS p a la b lb (J)).2.2) (F:=(au .u64 ((euS p a la b lb (J)).2.1))) ad rfl)
   (lB (ce (n:=(euS p a la b lb (J)).2.2) Tryz.underlying126 ad rfl)
   (lB (jW ad)
   aw)))
   (fun q hq w v h=>by
    simp only [BL,List.mem_cons,List.not_mem_nil,or_false] at hq
    rcases hq with rfl | rfl
    ·exact (fun h=>h) h
    ·exact (fun h=>h) h)) (cV (cW (e:=103) (sz:=1) (n:=(euS p a la b lb J).1.2) (F:=(au .u64 ((euS p a la b lb J).1.1))) ad rfl)
   (lB (ce (n:=(euS p a la b lb J).1.2) Tryz.underlying126 ad rfl)
   (lB (bK ad (by omega) rfl (by omega) (by omega))
   (lB (bI (i:=((euS p a la b lb J).1.2-1)) (sz:=1) (n:=(euS p a la b lb J).1.2) (F:=(au .u64 ((euS p a la b lb J).1.1))) Tryz.underlying126 (by kernel_rfl) (fun _ _ h=>ah.arr h) ad (by omega) rfl rfl)
   (lB (n6 (by kernel_rfl) ad rfl)
   (lB (n9 (P:=p) (a:=((euS p a la b lb J).1.1 ((euS p a la b lb J).1.2-1))) ad ad rfl hv.1 (by omega) (by omega) (by omega))
   (lB (uD (P:=p) (S:=S) (a:=(euS p a la b lb J).1.1) (c:=(bL p ((euS p a la b lb J).1.1 ((euS p a la b lb J).1.2-1)))) (la:=(euS p a la b lb J).1.2) (by decide) ad ad ad ad rfl rfl (by omega) (by omega) (by omega) ⟨hi.1,hi.2⟩ hr.1)
   aw))))))))
end Go.Proofs.YtbokonbbokhjlaaGreat.Sym
