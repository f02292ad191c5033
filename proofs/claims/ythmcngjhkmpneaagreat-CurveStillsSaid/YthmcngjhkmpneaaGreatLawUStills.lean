/- CurveStills holds: for every curve and all whole numbers the law returns true and leaves them as they were. No condition. -/
import Derived.Test.YthmcngjhkmpneaaGreatCurZ
set_option maxRecDepth 100000
namespace Go.Proofs.YthmcngjhkmpneaaGreat.cstills
open Go.ChangeShapes Go.WideShapes Go.ChangeAt Go.RowKit
open Go.Proofs.YthmcngjhkmpneaaGreat.Sym hiding val run start
def E5 (aa ab:Nat->Bool) (xsa xsb:Nat->List Nat) (dq dr:Nat->Int) (ma mb Na Nb:Nat) (a0:Bool) (xs0:List Nat) (z0:Int) (jx jy jn jd jm jk:Int) (Sx Sy Lx Ly X Y:List Int):List WP:=[Ni jx,Ni jy,fun w v=>Rw 2 (fun ι w v=>aG w v (aa ι) (xsa ι)) ma w v,fun w v=>Rw 2 (fun ι w v=>aG w v (ab ι) (xsb ι)) mb w v,fun w v=>aG w v a0 xs0,Ni jn,Ni jd,Ni jm,Ni jk,Rw 2 (Nf (an Sx) 2) Sx.length,Rw 2 (Nf (an Sy) 2) Sy.length,Nw (1:Int) 2,Dw (dL jn jd) 6,Dw (dL jm jk) 6,fun w v=>bk w v (dL jn jd) 6,Nw ((dL jn jd).num) 6,Nw ((dL jn jd).den:Int) 6,fun w v=>bk w v ((jx:Int):Rat) (2*(400+400+(2+2))+8),fun w v=>bk w v ((jy:Int):Rat) (2*(400+400+(2+2))+8),Ni ((max (tl (an Sx) Sx.length-1) (tl (an Sy) Sy.length-1):Nat):Int),Dw (aD jx 1) 6,fun w v=>ae w v ((aD jx 1).num) 6,fun w v=>ae w v ((aD jx 1).den:Int) 6,Dw (aD jy 1) 6,fun w v=>ae w v ((aD jy 1).num) 6,fun w v=>ae w v ((aD jy 1).den:Int) 6,Rw 2 (If dq 1) Na,Rw 2 (If dr 1) Nb,Iw z0 1,Rw 2 (Nf (an Lx) 1) Lx.length,Rw 2 (Nf (an Ly) 1) Ly.length,Nw (1:Int) 2,fun w v=>bk w v (dL jm jk) 6,Nw ((dL jm jk).num) 6,Nw ((dL jm jk).den:Int) 6,Rw 2 (Nf (an X) 340) X.length,Rw 2 (Nf (an Y) 340) Y.length,Nw (((dB Lx Ly ((-(dL jm jk)).num) (((-(dL jm jk)).den:Nat):Int)):Nat):Int) 340,fun w v=>bk w v (dL jn jd) 6,Nw ((dL jn jd).num) 6,Nw ((dL jn jd).den:Int) 6,fun w v=>bk w v (ev (dL jn jd) Na dq) (2*(400+400+(2+2))+8),fun w v=>bk w v (ev (dL jn jd) Nb dr) (2*(400+400+(2+2))+8),Dw ((dL jn jd)+(dL jm jk)) (3*(6+6)+3),fun w v=>ae w v (((dL jn jd)+(dL jm jk)).num) (3*(6+6)+3),fun w v=>ae w v (((dL jn jd)+(dL jm jk)).den:Int) (3*(6+6)+3),fun w v=>bk w v ((dL jn jd)+(dL jm jk)) (3*(6+6)+3),Nw (((dL jn jd)+(dL jm jk)).num) (3*(6+6)+3),Nw (((dL jn jd)+(dL jm jk)).den:Int) (3*(6+6)+3),fun w v=>bk w v (ev (dL jn jd) Na dq) (2*(400+400+(340+2))+8),fun w v=>bk w v (ev (dL jn jd) Nb dr) (2*(400+400+(340+2))+8)]
def E6:List Step:=[.base ⟨32,[.fact 0,.fact 1],[⟨.agg [.s,.s,.b,.s],[(0,1,9),(1,1,10),(2,2,11)]⟩],false⟩,
   .base ⟨33,[.fact 5,.fact 6],[oQ 12],false⟩,
   .base ⟨33,[.fact 7,.fact 8],[oQ 13],false⟩,
   .base ⟨35,[.fact 12],[⟨.agg [.b,.s,.b,.s],[(0,0,14),(0,2,15),(2,2,16)]⟩],false⟩,
   .base ⟨34,[.parts cS [(0,1,9),(1,1,10),(2,2,11)],.fact 14],[oR 17,oR 18],true⟩,
   .base ⟨36,[.parts cS [(0,1,9),(1,1,10)]],[oN 19],false⟩,
   bQ [.fact 19,.lit (.ci .i64 0)] oF (au .neq),
   .base ⟨38,[.fact 0,.lit (.ci .i64 1)],[⟨.agg [.s,.b,.s,.b],[(0,0,20),(0,2,21),(2,2,22)]⟩],false⟩,
   .base ⟨37,[.fact 20,.fact 17],oT,false⟩,
   .base ⟨38,[.fact 1,.lit (.ci .i64 1)],[⟨.agg [.s,.b,.s,.b],[(0,0,23),(0,2,24),(2,2,25)]⟩],false⟩,
   .base ⟨37,[.fact 23,.fact 18],oT,false⟩,
   .base ⟨25,[.parts cS [(0,1,2),(1,1,3),(2,2,4)],.lit (.ci .i64 3),.lit (.ci .i64 1)],[⟨.agg [.s,.s,.b,.s],[(0,1,26),(1,1,27),(2,2,28)]⟩],false⟩,
   .base ⟨39,[.fact 26,.fact 27],[⟨.agg [.s,.s,.b,.s],[(0,1,29),(1,1,30),(2,2,31)]⟩],false⟩,
   .base ⟨35,[.fact 13],[⟨.agg [.b,.s,.b,.s],[(0,0,32),(0,2,33),(2,2,34)]⟩],false⟩,
   .base ⟨30,[.fact 26,.fact 27,.fact 32],[⟨.agg [.s,.s,.b,.s],[(0,1,35),(1,1,36),(2,2,37)]⟩],false⟩,
   .base ⟨35,[.fact 12],[⟨.agg [.b,.s,.b,.s],[(0,0,38),(0,2,39),(2,2,40)]⟩],false⟩,
   .base ⟨34,[.parts cS [(0,1,29),(1,1,30),(2,2,31)],.fact 38],[oR 41,oR 42],true⟩,
   .base ⟨40,[.fact 12,.fact 13],[⟨.agg [.s,.b,.s,.b],[(0,0,43),(0,2,44),(2,2,45)]⟩],false⟩,
   .base ⟨35,[.fact 43],[⟨.agg [.b,.s,.b,.s],[(0,0,46),(0,2,47),(2,2,48)]⟩],false⟩,
   .base ⟨34,[.parts cS [(0,1,35),(1,1,36),(2,2,37)],.fact 46],[oR 49,oR 50],true⟩,
   .base ⟨41,[.fact 41,.fact 49],oT,false⟩,
   .base ⟨41,[.fact 42,.fact 50],oT,false⟩,
   .base ⟨31,[],oT,false⟩]
def E7:List Out:=[oN 0,oN 1,⟨.agg [.s,.s,.b,.s],[(0,1,2),(1,1,3),(2,2,4)]⟩,oN 5,oN 6,oN 7,oN 8]
theorem path {aa ab:Nat->Bool}{xsa xsb:Nat->List Nat}{dq dr:Nat->Int}{ma mb Na Nb:Nat}{a0:Bool}{xs0:List Nat}{z0:Int}{jx jy jn jd jm jk:Int}{Sx Sy Lx Ly X Y:List Int} (hna:ma<=9223372036854775807) (hnb:mb<=9223372036854775807) (hza:∀j,sg (aa j) (Proofs.YthmcngjhkmpneaaGreat.val 4294967296 ((xsa j).take 1))=dq j) (hzb:∀j,sg (ab j) (Proofs.YthmcngjhkmpneaaGreat.val 4294967296 ((xsb j).take 1))=dr j) (il:min ma 3=Na) (io:min mb 3=Nb) (hz0:sg a0 (Proofs.YthmcngjhkmpneaaGreat.val 4294967296 (xs0.take 1))=z0) (hx1 : -9223372036854775808<=jx) (hx2:jx<=9223372036854775807) (hy1 : -9223372036854775808<=jy) (hy2:jy<=9223372036854775807)
  (BJ:aP (mk 1 (an [jx]))=Sx) (hSy:aP (mk 1 (an [jy]))=Sy) (TB:Sx.length<=1) (TC:Sy.length<=1) (Cp:((max (tl (an Sx) Sx.length-1) (tl (an Sy) Sy.length-1):Nat):Int)=0)
  (Q6:(∀j,j<=tl (an Sx) Sx.length-1->Bd (hN (an Sx) (tl (an Sx) Sx.length) ((dL jn jd)).num ((dL jn jd)).den j).natAbs 400∧Bd (((((dL jn jd)).den:Nat):Int) ^ j).natAbs 400)) (Q7:(∀j,j<=tl (an Sy) Sy.length-1->Bd (hN (an Sy) (tl (an Sy) Sy.length) ((dL jn jd)).num ((dL jn jd)).den j).natAbs 400∧Bd (((((dL jn jd)).den:Nat):Int) ^ j).natAbs 400)) (v1x:ev (dL jn jd) Sx.length (an Sx) / (((1:Int):Int):Rat)=((jx:Int):Rat)) (Q8:ev (dL jn jd) Sy.length (an Sy) / (((1:Int):Int):Rat)=((jy:Int):Rat))
  (hLx:aP (mk Na dq)=Lx) (hLy:aP (mk Nb dr)=Ly) (QP:Lx.length<=3) (QQ:Ly.length<=3)
  (Q9:(∀j,j<=tl (an Lx) Lx.length-1->Bd (hN (an Lx) (tl (an Lx) Lx.length) ((dL jn jd)).num ((dL jn jd)).den j).natAbs 400∧Bd (((((dL jn jd)).den:Nat):Int) ^ j).natAbs 400)) (b2y:(∀j,j<=tl (an Ly) Ly.length-1->Bd (hN (an Ly) (tl (an Ly) Ly.length) ((dL jn jd)).num ((dL jn jd)).den j).natAbs 400∧Bd (((((dL jn jd)).den:Nat):Int) ^ j).natAbs 400)) (v2x:ev (dL jn jd) Lx.length (an Lx) / (((1:Int):Int):Rat)=ev (dL jn jd) Na dq) (Rb:ev (dL jn jd) Ly.length (an Ly) / (((1:Int):Int):Rat)=ev (dL jn jd) Nb dr)
  (hC:ik dq dr Na Nb ((-(dL jm jk)).num) (((-(dL jm jk)).den:Nat):Int) Lx Ly) (hX:mk Lx.length (cuX (qB Lx ((-(dL jm jk)).num) (((-(dL jm jk)).den:Nat):Int)) (dB Lx Ly ((-(dL jm jk)).num) (((-(dL jm jk)).den:Nat):Int)))=X) (hY:mk Ly.length (cuX (qB Ly ((-(dL jm jk)).num) (((-(dL jm jk)).den:Nat):Int)) (dB Lx Ly ((-(dL jm jk)).num) (((-(dL jm jk)).den:Nat):Int)))=Y) (hXl:X.length<=6) (hYl:Y.length<=6) (hD:(((dB Lx Ly ((-(dL jm jk)).num) (((-(dL jm jk)).den:Nat):Int)):Nat):Int)≠0)
  (Rc:(∀j,j<=tl (an X) X.length-1->Bd (hN (an X) (tl (an X) X.length) (((dL jn jd)+(dL jm jk))).num (((dL jn jd)+(dL jm jk))).den j).natAbs 400∧Bd ((((((dL jn jd)+(dL jm jk))).den:Nat):Int) ^ j).natAbs 400)) (Rd:(∀j,j<=tl (an Y) Y.length-1->Bd (hN (an Y) (tl (an Y) Y.length) (((dL jn jd)+(dL jm jk))).num (((dL jn jd)+(dL jm jk))).den j).natAbs 400∧Bd ((((((dL jn jd)+(dL jm jk))).den:Nat):Int) ^ j).natAbs 400)) (v3x:ev ((dL jn jd)+(dL jm jk)) X.length (an X) / ((((((dB Lx Ly ((-(dL jm jk)).num) (((-(dL jm jk)).den:Nat):Int)):Nat):Int)):Int):Rat)=ev (dL jn jd) Na dq) (Re:ev ((dL jn jd)+(dL jm jk)) Y.length (an Y) / ((((((dB Lx Ly ((-(dL jm jk)).num) (((-(dL jm jk)).den:Nat):Int)):Nat):Int)):Int):Rat)=ev (dL jn jd) Nb dr):ai (ph (E5 aa ab xsa xsb dq dr ma mb Na Nb a0 xs0 z0 jx jy jn jd jm jk Sx Sy Lx Ly X Y)) Tryz.prog ⟨7,[.fact 0,.fact 1,.parts (.agg [.s,.s,.b,.s]) [(0,1,2),(1,1,3),(2,2,4)],.fact 5,.fact 6,.fact 7,.fact 8],oT,false⟩:=by
 skip
 exact bg E7 oT E6 Tryz.func7 (by kernel_rfl)
  (lB (QI ad ad rfl rfl rfl (by omega) (by omega) (by omega) (by omega) BJ hSy)
   (lB (tW ad ad rfl)
   (lB (tW ad ad rfl)
   (lB (CI tS rfl rfl rfl (by omega))
   (lB (BS (x:=(an Sx)) (y:=(an Sy)) (d:=(1:Int)) (nx:=Sx.length) (ny:=Sy.length) (k:=2) (kt:=6) (kn:=400) (kd:=2) (t:=(dL jn jd)) (Rw.To 2 (Nf (an Sx) 2) Sx.length (fun _ _ _ _ h=>ak.i h)) (Rw.To 2 (Nf (an Sy) 2) Sy.length (fun _ _ _ _ h=>ak.i h)) ad pQ rfl rfl (by omega) (by omega) (by omega) (by omega) (by omega) (by omega) (by decide) Q6 Q7 v1x Q8)
   (lB (BT (x:=(an Sx)) (y:=(an Sy)) (nx:=Sx.length) (ny:=Sy.length) (k:=2) (Rw.To 2 (Nf (an Sx) 2) Sx.length (fun _ _ _ _ h=>ak.i h)) (Rw.To 2 (Nf (an Sy) 2) Sy.length (fun _ _ _ _ h=>ak.i h)) rfl (by omega) (by omega) (by omega))
   (lB (cn (op:=.neq) ad (cw (decide_eq_false (fun h=>h Cp)) (by simp)))
   (lB (JM (y:=1) ad rfl rfl rfl (by omega) (by omega) (by decide) (by decide) rfl)
   (lB (E8 tS pP (by omega) (mt _) rfl)
   (lB (JM (y:=1) ad rfl rfl rfl (by omega) (by omega) (by decide) (by decide) rfl)
   (lB (E8 tS pP (by omega) (mt _) rfl)
   (lB (CO 3 1 rfl rfl ad ad ad rfl rfl rfl (by omega) hna hnb hza hzb il io hz0)
   (lB (AR (x:=dq) (y:=dr) (k:=1) (Rw.To 2 (If dq 1) Na (fun _ _ _ _ h=>h)) (Rw.To 2 (If dr 1) Nb (fun _ _ _ _ h=>h)) rfl rfl rfl (by omega) (by omega) (by omega) hLx hLy)
   (lB (CI tS rfl rfl rfl (by omega))
   (lB (ua (k:=1) (kt:=6) (t:=(dL jm jk)) (Rw.To 2 (If dq 1) Na (fun _ _ _ _ h=>h)) (Rw.To 2 (If dr 1) Nb (fun _ _ _ _ h=>h)) pQ rfl rfl rfl (by omega) (by omega) hC hX hY)
   (lB (CI tS rfl rfl rfl (by omega))
   (lB (BS (x:=(an Lx)) (y:=(an Ly)) (d:=(1:Int)) (nx:=Lx.length) (ny:=Ly.length) (k:=1) (kt:=6) (kn:=400) (kd:=2) (t:=(dL jn jd)) (Rw.To 2 (Nf (an Lx) 1) Lx.length (fun _ _ _ _ h=>ak.i h)) (Rw.To 2 (Nf (an Ly) 1) Ly.length (fun _ _ _ _ h=>ak.i h)) ad pQ rfl rfl (by omega) (by omega) (by omega) (by omega) (by omega) (by omega) (by decide) Q9 b2y v2x Rb)
   (lB (ur tS tS rfl rfl rfl (by omega) rfl)
   (lB (CI tS rfl rfl rfl (by omega))
   (lB (BS (x:=(an X)) (y:=(an Y)) (d:=(((dB Lx Ly ((-(dL jm jk)).num) (((-(dL jm jk)).den:Nat):Int)):Nat):Int)) (nx:=X.length) (ny:=Y.length) (k:=340) (kt:=(3*(6+6)+3)) (kn:=400) (kd:=340) (t:=(dL jn jd)+(dL jm jk)) (Rw.To 2 (Nf (an X) 340) X.length (fun _ _ _ _ h=>ak.i h)) (Rw.To 2 (Nf (an Y) 340) Y.length (fun _ _ _ _ h=>ak.i h)) ad pQ rfl rfl (by omega) (by omega) (by omega) (by omega) (by omega) (by omega) hD Rc Rd v3x Re)
   (lB (E9 pP pP rfl rfl)
   (lB (E9 pP pP rfl rfl)
   (lB (C0)
   aC)))))))))))))))))))))))
  (aK [.fact 0 (.one (.i)),.fact 1 (.one (.i)),.parts (.agg [.s,.s,.b,.s]) [(0,1,2),(1,1,3),(2,2,4)],.fact 5 (.one (.i)),.fact 6 (.one (.i)),.fact 7 (.one (.i)),.fact 8 (.one (.i))] ⟨fun _ _ h=>h▸dl _,fun _ _ h=>h▸dl _,trivial,fun _ _ h=>h▸dl _,fun _ _ h=>h▸dl _,fun _ _ h=>h▸dl _,fun _ _ h=>h▸dl _,trivial⟩) (fun _ _ _ h=>h)
theorem div_one {a b:Rat} (h:a=b):a / (((1:Int):Int):Rat)=b:=by
 rw [h,show (((1:Int):Int):Rat)=1 from rfl,Rat.div_def]
 grind
theorem su {z:Nat->Int}{n k:Nat}{q:Rat} (hz:∀i,i<n->Bd (z i).natAbs k) (hq:Bd q.num.natAbs 3∧Bd q.den 3) (hn:n<=6) (hk:k<=340) (j:Nat) (hj:j<=tl z n-1):Bd (hN z (tl z n) q.num q.den j).natAbs 400∧Bd (((q.den:Nat):Int) ^ j).natAbs 400:=
 Rf (c:=6) hz hq (Nat.le_trans (aV _ _) hn) (by omega) j hj
theorem walk {x y n d m k:Int}{ma mb:Nat}{aa ab:Nat->Bool}{xsa xsb:Nat->List Nat}{w:World}{va vb s0:Value}{c0:Bool}{zs0:List Nat} (hx1 : -9223372036854775808<=x) (hx2:x<=9223372036854775807) (hy1 : -9223372036854775808<=y) (hy2:y<=9223372036854775807) (hna:ma<=9223372036854775807) (hla:Rw 2 (fun i w v=>aG w v (aa i) (xsa i)) ma w va) (hnb:mb<=9223372036854775807) (hlb:Rw 2 (fun i w v=>aG w v (ab i) (xsb i)) mb w vb) (hx0:Sl w .u32 s0 zs0) (ax0:All 4294967296 zs0):Calls Tryz.prog 7 #[.int .i64 x,.int .i64 y,.agg #[va,vb,.bool c0,s0],.int .i64 n,.int .i64 d,.int .i64 m,.int .i64 k] w (qb w true):=by
 obtain ⟨dq,hza⟩:∃ez:Nat->Int,∀j,sg (aa j) (Proofs.YthmcngjhkmpneaaGreat.val 4294967296 ((xsa j).take 1))=ez j:=⟨_,fun _=>rfl⟩
 obtain ⟨dr,hzb⟩:∃ez:Nat->Int,∀j,sg (ab j) (Proofs.YthmcngjhkmpneaaGreat.val 4294967296 ((xsb j).take 1))=ez j:=⟨_,fun _=>rfl⟩
 obtain ⟨Na,il⟩:∃N,min ma 3=N:=⟨_,rfl⟩
 obtain ⟨Nb,io⟩:∃N,min mb 3=N:=⟨_,rfl⟩
 have ht:=tU n d
 have hs:=tU m k
 have ht3:Bd (dL n d).num.natAbs 3∧Bd (dL n d).den 3:=⟨ht.1.more (by omega),ht.2.more (by omega)⟩
 have hts:=Rg ht hs
 have hba:∀i,i<Na->Bd (dq i).natAbs 1:=fun i hi=>uf hla hza i (by omega)
 have hbb:∀i,i<Nb->Bd (dr i).natAbs 1:=fun i hi=>uf hlb hzb i (by omega)
 obtain ⟨Lx,hLx⟩:∃L,aP (mk Na dq)=L:=⟨_,rfl⟩
 obtain ⟨Ly,hLy⟩:∃L,aP (mk Nb dr)=L:=⟨_,rfl⟩
 have llx:=fE hLx
 have QS:=fE hLy
 have QT:=aV dq Na
 have tly:=aV dr Nb
 have one:∀a:Int,(aP (mk 1 (an [a]))).length<=1:=fun a=>by rw [fe];exact aV _ _
 have Fc:∀a:Int,-9223372036854775808<=a->a<=9223372036854775807->∀i,i<(aP (mk 1 (an [a]))).length->Bd (an (aP (mk 1 (an [a]))) i).natAbs 2:=fun a h1 h2 i hi=>by
  have:=one a
  obtain rfl:i=0:=by omega
  rw [kf,eu,if_pos (by omega)]
  show a.natAbs<4294967296 ^ 2
  omega
 have IQ:∀(a:Int) (q:Rat),ev q (aP (mk 1 (an [a]))).length (an (aP (mk 1 (an [a]))))=((a:Int):Rat):=fun a q=>by
  rw [tJ rfl]
  simp only [ev]
  show ((a:Int):Rat)+q*0=_
  grind
 have hC:ik dq dr Na Nb ((-(dL m k)).num) (((-(dL m k)).den:Nat):Int) Lx Ly:=⟨by omega,by omega,hLx,hLy,by omega,by omega,fun i hi=>(hba i hi).more (by omega),fun i hi=>(hbb i hi).more (by omega),by have:=(-(dL m k)).den_pos;omega,by rw [Rat.neg_num,Int.natAbs_neg];exact hs.1.more (by omega),by rw [Rat.neg_den,Int.natAbs_natCast];exact hs.2.more (by omega)⟩
 obtain ⟨a1,a2,a3,a4,a5⟩:=hC.all
 have hev:=AQ hC (dL n d+dL m k)
 have hDp:0<dB Lx Ly (-(dL m k)).num (((-(dL m k)).den:Nat):Int):=kh _ _
 have hback:dL n d+dL m k+(((-(dL m k)).num:Int):Rat) / ((((-(dL m k)).den:Nat):Int):Rat)=dL n d:=by
  have:=Rat.num_divInt_den (-(dL m k))
  rw [Rat.divInt_eq_div] at this
  rw [this]
  grind
 rw [hback] at hev
 have hD0:((((dB Lx Ly (-(dL m k)).num (((-(dL m k)).den:Nat):Int):Nat):Int):Int):Rat)≠0:=fun e=>by
  have:((dB Lx Ly (-(dL m k)).num (((-(dL m k)).den:Nat):Int):Nat):Int)=0:=by exact_mod_cast e
  omega
 have Ka:∀{f:Nat->Int}{l:Nat}{v:Rat}{t:Rat},ev t l f=((((dB Lx Ly (-(dL m k)).num (((-(dL m k)).den:Nat):Int):Nat):Int):Int):Rat)*v->ev t (mk l f).length (an (mk l f)) / ((((dB Lx Ly (-(dL m k)).num (((-(dL m k)).den:Nat):Int):Nat):Int):Int):Rat)=v:=fun {f l v t} h=>by
  rw [eM,gx (y:=f) fun i hi=>by rw [eu,if_pos hi],h,Rat.div_def,Rat.mul_comm (_:Rat) v,Rat.mul_assoc,Rat.mul_inv_cancel _ hD0,Rat.mul_one]
 have bmk:∀{f:Nat->Int}{l:Nat},(∀i,i<l->Bd (f i).natAbs 340)->∀i,i<(mk l f).length->Bd (an (mk l f) i).natAbs 340:=fun {f l} h i hi=>by
  rw [eM] at hi
  rw [eu,if_pos hi]
  exact h i hi
 have bL:∀{z:Nat->Int}{l:Nat}{L:List Int},aP (mk l z)=L->(∀i,i<l->Bd (z i).natAbs 1)->∀i,i<L.length->Bd (an L i).natAbs 1:=fun {z l L} h hb i hi=>by
  rw [fE h] at hi
  rw [kB h i hi]
  exact hb i (Nat.lt_of_lt_of_le hi (aV _ _))
 exact Fa (path (a0:=c0) (xs0:=zs0) hna hnb hza hzb il io rfl hx1 hx2 hy1 hy2 rfl rfl (one x) (one y) (by
   have h1:=Nat.le_trans (aV (an (aP (mk 1 (an [x])))) _) (one x)
   have h2:=Nat.le_trans (aV (an (aP (mk 1 (an [y])))) _) (one y)
   omega)
  (su (Fc x hx1 hx2) ht3 (Nat.le_trans (one x) (by omega)) (by omega)) (su (Fc y hy1 hy2) ht3 (Nat.le_trans (one y) (by omega)) (by omega)) (div_one (IQ x _)) (div_one (IQ y _)) hLx hLy (by omega) (by omega)
  (su (bL hLx hba) ht3 (by omega) (by omega)) (su (bL hLy hbb) ht3 (by omega) (by omega)) (div_one (tJ hLx _)) (div_one (tJ hLy _)) hC rfl rfl (by rw [eM];omega) (by rw [eM];omega) (by omega)
  (su (bmk a2) hts (by rw [eM];omega) (by omega)) (su (bmk a3) hts (by rw [eM];omega) (by omega)) (Ka hev.1) (Ka hev.2)) (vs:=[.int .i64 x,.int .i64 y,.agg #[va,vb,.bool c0,s0],.int .i64 n,.int .i64 d,.int .i64 m,.int .i64 k]) ⟨fun _ _=>rfl,fun _ _=>rfl,CR hla hlb ⟨_,rfl,hx0,ax0⟩ rfl rfl rfl,fun _ _=>rfl,fun _ _=>rfl,fun _ _=>rfl,fun _ _=>rfl,trivial⟩
theorem lifted (os:Os) (started:os.Started) (H:Type) (enc:TypeId×Value->H) :
  ReturnsInHanded {} Tryz.checked os 7 .any (Rows.curveStillsSpec.pre6 enc Tryz.prog Tryz.f7 Rows.curveStillsRow.domain false) (Rows.curveStillsSpec.post enc Tryz.prog Tryz.f7 false true false false):=by
 refine returnsInHanded_of_change (C:=Tryz.checked) Tryz.own started (by kernel_rfl) Tryz.func7
  (ChangeSpec.witness6 (enc:=enc) (C:=Tryz.checked) false ⟨#[],#[.int .i64 0,.int .i64 0,.agg #[.slice none 0 0,.slice none 0 0,.bool false,.slice none 0 0],.int .i64 0,.int .i64 0,.int .i64 0,.int .i64 0],[]⟩ 8 (by kernel_rfl) (by kernel_rfl) (by kernel_rfl) (by kernel_rfl)) ?_
 intro W base args ds gs before hval0 hW _ _
 have hval:∀(j:Nat) t v,Tryz.f7.params[j]?=some t->args[j]?=some v->Value.okWide Tryz.prog W .any base t v:=hval0
 obtain ⟨p,q,hA0,hV,rfl,_,_⟩:=id hW
 have hA:DataW.TrodAll enc Tryz.prog W 0 (fun _=>true) true Tryz.f7.params.toList args.toList ds p:=hA0
 rw [Tryz.params7] at hA hval
 obtain ⟨v0,P3,d0,ds0,p0,q0,hargs,rfl,rfl,h0,r0⟩:=trodAll_cons hA
 obtain ⟨v1,vs1,d1,ds1,p1,q1,rfl,rfl,rfl,h1,r1⟩:=trodAll_cons r0
 obtain ⟨v2,vs2,d2,Q4,p2,q2,rfl,rfl,rfl,h2,r2⟩:=trodAll_cons r1
 obtain ⟨v3,vs3,d3,ds3,p3,q3,rfl,rfl,rfl,h3,r3⟩:=trodAll_cons r2
 obtain ⟨v4,vs4,d4,Q5,p4,q4,rfl,rfl,rfl,h4,r4⟩:=trodAll_cons r3
 obtain ⟨v5,TD,d5,TE,p5,q5,rfl,rfl,rfl,h5,r5⟩:=trodAll_cons r4
 obtain ⟨v6,TF,d6,TG,p6,q6,rfl,rfl,rfl,h6,r6⟩:=trodAll_cons r5
 obtain ⟨rfl,rfl,rfl⟩:=trodAll_nil r6
 obtain rfl:args = #[v0,v1,v2,v3,v4,v5,v6]:=by cases args;simp_all
 obtain ⟨n0,rfl,rfl,rfl,f0⟩:=open_int Tryz.underlying3 (hval 0 3 v0 rfl rfl) h0
 obtain ⟨n1,rfl,rfl,rfl,f1⟩:=open_int Tryz.underlying3 (hval 1 3 v1 rfl rfl) h1
 obtain ⟨x2,y2,b2,w2,n2,m2,a2,TH,xs2,TI,qa,rfl,l2,s2,Rh,s2',t2,u2⟩:=CH h2 (hval 2 53 v2 rfl rfl)
 obtain ⟨n3,rfl,rfl,rfl,f3⟩:=open_int Tryz.underlying3 (hval 3 3 v3 rfl rfl) h3
 obtain ⟨n4,rfl,rfl,rfl,f4⟩:=open_int Tryz.underlying3 (hval 4 3 v4 rfl rfl) h4
 obtain ⟨n5,rfl,rfl,rfl,f5⟩:=open_int Tryz.underlying3 (hval 5 3 v5 rfl rfl) h5
 obtain ⟨n6,rfl,rfl,rfl,f6⟩:=open_int Tryz.underlying3 (hval 6 3 v6 rfl rfl) h6
 refine (walk (Kb f0) (Kc f0) (Kb f1) (Kc f1) l2 s2 Rh s2' t2 u2).mono fun e W' ⟨he,hg⟩=>?_
 subst he
 refine ⟨_,rfl,Fd Tryz.laidOut rfl (by kernel_rfl) Tryz.underlying4 ?_ ?_ hW hg⟩
 ·rw [Tryz.params7];decide +kernel
 ·rw [Tryz.params7]
  intro ds h
  match ds,h with
  | [_,_,_,_,_,_,_],_=>rfl
theorem holds:Rows.CurveStillsSaid:=
 OpenClaim.holds_of_wide 7 Tryz.f7 rfl rfl rfl rfl rfl rfl rfl ⟨rfl,rfl,rfl,rfl,rfl⟩ rfl rfl rfl rfl rfl (by kernel_rfl) Tryz.func7 (by kernel_rfl)
  (of_decide_eq_true (by kernel_rfl)) (by unfold Func.isWrapper;first | (rw [if_pos (by decide +kernel)];kernel_rfl) | (rw [if_neg (by decide +kernel)];exact ⟨rfl,rfl⟩))
  (fun os started H enc _=>lifted os started H enc)
end Go.Proofs.YthmcngjhkmpneaaGreat.cstills
