/- CurveBack holds: for every curve and all whole numbers the law returns true and leaves them as they were. No condition. -/
import Derived.Test.YthmcngjhkmpneaaGreatCurZ
set_option maxRecDepth 100000
namespace Go.Proofs.YthmcngjhkmpneaaGreat.cback
open Go.ChangeShapes Go.WideShapes Go.ChangeAt Go.RowKit
open Go.Proofs.YthmcngjhkmpneaaGreat.Sym hiding val run start
def E5 (aa ab:Nat->Bool) (xsa xsb:Nat->List Nat) (dq dr:Nat->Int) (ma mb Na Nb:Nat) (a0:Bool) (xs0:List Nat) (z0:Int) (jn jd jm jk:Int) (Lx Ly Xa Ya Xb Yb Xx Yx Xy Yy:List Int):List WP:=[fun w v=>Rw 2 (fun ι w v=>aG w v (aa ι) (xsa ι)) ma w v,fun w v=>Rw 2 (fun ι w v=>aG w v (ab ι) (xsb ι)) mb w v,fun w v=>aG w v a0 xs0,Ni jn,Ni jd,Ni jm,Ni jk,Rw 2 (If dq 1) Na,Rw 2 (If dr 1) Nb,Iw z0 1,Dw (dL jn jd) 6,Dw (dL jm jk) 6,Rw 2 (Nf (an Lx) 1) Lx.length,Rw 2 (Nf (an Ly) 1) Ly.length,Nw (1:Int) 2,fun w v=>bk w v (dL jn jd) 6,Nw ((dL jn jd).num) 6,Nw ((dL jn jd).den:Int) 6,Rw 2 (Nf (an Xa) 340) Xa.length,Rw 2 (Nf (an Ya) 340) Ya.length,Nw (((dB Lx Ly ((-(dL jn jd)).num) (((-(dL jn jd)).den:Nat):Int)):Nat):Int) 340,Dw (-(dL jn jd)) 6,fun w v=>ae w v ((-(dL jn jd)).num) 6,fun w v=>ae w v ((-(dL jn jd)).den:Int) 6,fun w v=>bk w v (-(dL jn jd)) 6,Nw ((-(dL jn jd)).num) 6,Nw ((-(dL jn jd)).den:Int) 6,Rw 2 (Nf (an Xb) 340) Xb.length,Rw 2 (Nf (an Yb) 340) Yb.length,Nw (((dB Xa Ya ((-(-(dL jn jd))).num) (((-(-(dL jn jd))).den:Nat):Int)):Nat):Int) 340,Nw ((((dB Xa Ya ((-(-(dL jn jd))).num) (((-(-(dL jn jd))).den:Nat):Int)):Nat):Int)*(((dB Lx Ly ((-(dL jn jd)).num) (((-(dL jn jd)).den:Nat):Int)):Nat):Int)) (340+340),Rw 2 (Nf (an Lx) 680) Lx.length,Rw 2 (Nf (an Ly) 680) Ly.length,Nw (1:Int) 680,fun w v=>bk w v (dL jm jk) 6,Nw ((dL jm jk).num) 6,Nw ((dL jm jk).den:Int) 6,Rw 2 (Nf (an Xx) 340) Xx.length,Rw 2 (Nf (an Yx) 340) Yx.length,Nw (((dB Xa Ya ((-(dL jm jk)).num) (((-(dL jm jk)).den:Nat):Int)):Nat):Int) 340,Nw ((((dB Xa Ya ((-(dL jm jk)).num) (((-(dL jm jk)).den:Nat):Int)):Nat):Int)*(((dB Lx Ly ((-(dL jn jd)).num) (((-(dL jn jd)).den:Nat):Int)):Nat):Int)) (340+340),Rw 2 (Nf (an Xy) 680) Xy.length,Rw 2 (Nf (an Yy) 680) Yy.length,Nw (((dB Lx Ly ((-((dL jn jd)+(dL jm jk))).num) (((-((dL jn jd)+(dL jm jk))).den:Nat):Int)):Nat):Int) 680,fun w v=>bk w v (dL jn jd) 6,Nw ((dL jn jd).num) 6,Nw ((dL jn jd).den:Int) 6,fun w v=>bk w v (dL jm jk) 6,Nw ((dL jm jk).num) 6,Nw ((dL jm jk).den:Int) 6,fun w v=>bk w v ((dL jn jd)+(dL jm jk)) (2*(6+6)+9),Nw (((dL jn jd)+(dL jm jk)).num) (2*(6+6)+9),Nw (((dL jn jd)+(dL jm jk)).den:Int) (2*(6+6)+9),Rw 2 (Nf (an Xy) 340) Xy.length,Rw 2 (Nf (an Yy) 340) Yy.length,Nw (((dB Lx Ly ((-((dL jn jd)+(dL jm jk))).num) (((-((dL jn jd)+(dL jm jk))).den:Nat):Int)):Nat):Int) 340,Ni ((max (tl (an Xa) Xa.length-1) (tl (an Ya) Ya.length-1):Nat):Int),Ni ((max (tl (an Lx) Lx.length-1) (tl (an Ly) Ly.length-1):Nat):Int)]
def E6:List Step:=[.base ⟨25,[.parts cS [(0,1,0),(1,1,1),(2,2,2)],.lit (.ci .i64 3),.lit (.ci .i64 1)],[⟨.agg [.s,.s,.b,.s],[(0,1,7),(1,1,8),(2,2,9)]⟩],false⟩,
   .base ⟨33,[.fact 3,.fact 4],[oQ 10],false⟩,
   .base ⟨33,[.fact 5,.fact 6],[oQ 11],false⟩,
   .base ⟨39,[.fact 7,.fact 8],[⟨.agg [.s,.s,.b,.s],[(0,1,12),(1,1,13),(2,2,14)]⟩],false⟩,
   .base ⟨35,[.fact 10],[⟨.agg [.b,.s,.b,.s],[(0,0,15),(0,2,16),(2,2,17)]⟩],false⟩,
   .base ⟨30,[.fact 7,.fact 8,.fact 15],[⟨.agg [.s,.s,.b,.s],[(0,1,18),(1,1,19),(2,2,20)]⟩],false⟩,
   .base ⟨42,[.fact 10],[⟨.agg [.s,.b,.s,.b],[(0,0,21),(0,2,22),(2,2,23)]⟩],false⟩,
   .base ⟨35,[.fact 21],[⟨.agg [.b,.s,.b,.s],[(0,0,24),(0,2,25),(2,2,26)]⟩],false⟩,
   .base ⟨30,[.fact 18,.fact 19,.fact 24],[⟨.agg [.s,.s,.b,.s],[(0,1,27),(1,1,28),(2,2,29)]⟩],false⟩,
   .base ⟨44,[.fact 29,.fact 20],[oI 30],false⟩,
   .base ⟨43,[.fact 27,.fact 28,.fact 30],[⟨.agg [.s,.s,.b,.s],[(0,1,31),(1,1,32),(2,2,33)]⟩,oL (.ci .i64 0)],true⟩,
   .base ⟨35,[.fact 11],[⟨.agg [.b,.s,.b,.s],[(0,0,34),(0,2,35),(2,2,36)]⟩],false⟩,
   .base ⟨30,[.fact 18,.fact 19,.fact 34],[⟨.agg [.s,.s,.b,.s],[(0,1,37),(1,1,38),(2,2,39)]⟩],false⟩,
   .base ⟨44,[.fact 39,.fact 20],[oI 40],false⟩,
   .base ⟨43,[.fact 37,.fact 38,.fact 40],[⟨.agg [.s,.s,.b,.s],[(0,1,41),(1,1,42),(2,2,43)]⟩,oL (.ci .i64 0)],true⟩,
   .base ⟨35,[.fact 10],[⟨.agg [.b,.s,.b,.s],[(0,0,44),(0,2,45),(2,2,46)]⟩],false⟩,
   .base ⟨35,[.fact 11],[⟨.agg [.b,.s,.b,.s],[(0,0,47),(0,2,48),(2,2,49)]⟩],false⟩,
   .base ⟨45,[.fact 44,.fact 47],[⟨.agg [.b,.s,.b,.s],[(0,0,50),(0,2,51),(2,2,52)]⟩],false⟩,
   .base ⟨30,[.fact 7,.fact 8,.fact 50],[⟨.agg [.s,.s,.b,.s],[(0,1,53),(1,1,54),(2,2,55)]⟩],false⟩,
   .base ⟨46,[.parts cS [(0,1,12),(1,1,13),(2,2,14)],.parts cS [(0,1,31),(1,1,32),(2,2,33)]],oT,false⟩,
   .base ⟨46,[.parts cS [(0,1,41),(1,1,42),(2,2,43)],.parts cS [(0,1,53),(1,1,54),(2,2,55)]],oT,false⟩,
   .base ⟨36,[.parts cS [(0,1,18),(1,1,19)]],[oN 56],false⟩,
   .base ⟨36,[.parts cS [(0,1,12),(1,1,13)]],[oN 57],false⟩,
   bQ [.fact 56,.fact 57] oT (au .eql),
   .base ⟨31,[],oT,false⟩]
def E7:List Out:=[⟨.agg [.s,.s,.b,.s],[(0,1,0),(1,1,1),(2,2,2)]⟩,oN 3,oN 4,oN 5,oN 6]
theorem path {aa ab:Nat->Bool}{xsa xsb:Nat->List Nat}{dq dr:Nat->Int}{ma mb Na Nb:Nat}{a0:Bool}{xs0:List Nat}{z0:Int}{jn jd jm jk:Int}{Lx Ly Xa Ya Xb Yb Xx Yx Xy Yy:List Int} (hna:ma<=9223372036854775807) (hnb:mb<=9223372036854775807) (hza:∀j,sg (aa j) (Proofs.YthmcngjhkmpneaaGreat.val 4294967296 ((xsa j).take 1))=dq j) (hzb:∀j,sg (ab j) (Proofs.YthmcngjhkmpneaaGreat.val 4294967296 ((xsb j).take 1))=dr j) (il:min ma 3=Na) (io:min mb 3=Nb) (hz0:sg a0 (Proofs.YthmcngjhkmpneaaGreat.val 4294967296 (xs0.take 1))=z0) (hLx:aP (mk Na dq)=Lx) (hLy:aP (mk Nb dr)=Ly) (QP:Lx.length<=3) (QQ:Ly.length<=3) (hC1:ik dq dr Na Nb ((-(dL jn jd)).num) (((-(dL jn jd)).den:Nat):Int) Lx Ly) (hX1:mk Lx.length (cuX (qB Lx ((-(dL jn jd)).num) (((-(dL jn jd)).den:Nat):Int)) (dB Lx Ly ((-(dL jn jd)).num) (((-(dL jn jd)).den:Nat):Int)))=Xa) (hY1:mk Ly.length (cuX (qB Ly ((-(dL jn jd)).num) (((-(dL jn jd)).den:Nat):Int)) (dB Lx Ly ((-(dL jn jd)).num) (((-(dL jn jd)).den:Nat):Int)))=Ya) (hl1:Xa.length<=6∧Ya.length<=6) (hXa3:∀i,i<Xa.length->Bd (an Xa i).natAbs 3) (tQ:∀i,i<Ya.length->Bd (an Ya i).natAbs 3) (hC2:ik (an Xa) (an Ya) Xa.length Ya.length ((-(-(dL jn jd))).num) (((-(-(dL jn jd))).den:Nat):Int) Xa Ya) (hX2:mk Xa.length (cuX (qB Xa ((-(-(dL jn jd))).num) (((-(-(dL jn jd))).den:Nat):Int)) (dB Xa Ya ((-(-(dL jn jd))).num) (((-(-(dL jn jd))).den:Nat):Int)))=Xb) (hY2:mk Ya.length (cuX (qB Ya ((-(-(dL jn jd))).num) (((-(-(dL jn jd))).den:Nat):Int)) (dB Xa Ya ((-(-(dL jn jd))).num) (((-(-(dL jn jd))).den:Nat):Int)))=Yb) (hl2:Xb.length<=6∧Yb.length<=6) (hpb:0<((((dB Xa Ya ((-(-(dL jn jd))).num) (((-(-(dL jn jd))).den:Nat):Int)):Nat):Int)*(((dB Lx Ly ((-(dL jn jd)).num) (((-(dL jn jd)).den:Nat):Int)):Nat):Int))) (hab:o5 Xb) (hbb:o5 Yb) (Ck:∀i,i<Xb.length->(fun i=>((an Lx i:Int):Rat)) i*(((((((dB Xa Ya ((-(-(dL jn jd))).num) (((-(-(dL jn jd))).den:Nat):Int)):Nat):Int)*(((dB Lx Ly ((-(dL jn jd)).num) (((-(dL jn jd)).den:Nat):Int)):Nat):Int))):Int):Rat)=((an Xb i:Int):Rat)) (Cm:∀i,i<Yb.length->(fun i=>((an Ly i:Int):Rat)) i*(((((((dB Xa Ya ((-(-(dL jn jd))).num) (((-(-(dL jn jd))).den:Nat):Int)):Nat):Int)*(((dB Lx Ly ((-(dL jn jd)).num) (((-(dL jn jd)).den:Nat):Int)):Nat):Int))):Int):Rat)=((an Yb i:Int):Rat)) (hxb:mk Xb.length (cuX (fun i=>((an Lx i:Int):Rat)) (dnL (aW Xb.length (fun i=>((an Lx i:Int):Rat)) (fun i=>((an Ly i:Int):Rat))) (Xb.length+Yb.length)))=Lx) (hyb:mk Yb.length (cuX (fun i=>((an Ly i:Int):Rat)) (dnL (aW Xb.length (fun i=>((an Lx i:Int):Rat)) (fun i=>((an Ly i:Int):Rat))) (Xb.length+Yb.length)))=Ly) (hdb:(((dnL (aW Xb.length (fun i=>((an Lx i:Int):Rat)) (fun i=>((an Ly i:Int):Rat))) (Xb.length+Yb.length)):Nat):Int)=1) (uF:ik (an Xa) (an Ya) Xa.length Ya.length ((-(dL jm jk)).num) (((-(dL jm jk)).den:Nat):Int) Xa Ya) (hX3:mk Xa.length (cuX (qB Xa ((-(dL jm jk)).num) (((-(dL jm jk)).den:Nat):Int)) (dB Xa Ya ((-(dL jm jk)).num) (((-(dL jm jk)).den:Nat):Int)))=Xx) (hY3:mk Ya.length (cuX (qB Ya ((-(dL jm jk)).num) (((-(dL jm jk)).den:Nat):Int)) (dB Xa Ya ((-(dL jm jk)).num) (((-(dL jm jk)).den:Nat):Int)))=Yx) (hl3:Xx.length<=6∧Yx.length<=6) (uH:ik dq dr Na Nb ((-((dL jn jd)+(dL jm jk))).num) (((-((dL jn jd)+(dL jm jk))).den:Nat):Int) Lx Ly) (hX4:mk Lx.length (cuX (qB Lx ((-((dL jn jd)+(dL jm jk))).num) (((-((dL jn jd)+(dL jm jk))).den:Nat):Int)) (dB Lx Ly ((-((dL jn jd)+(dL jm jk))).num) (((-((dL jn jd)+(dL jm jk))).den:Nat):Int)))=Xy) (hY4:mk Ly.length (cuX (qB Ly ((-((dL jn jd)+(dL jm jk))).num) (((-((dL jn jd)+(dL jm jk))).den:Nat):Int)) (dB Lx Ly ((-((dL jn jd)+(dL jm jk))).num) (((-((dL jn jd)+(dL jm jk))).den:Nat):Int)))=Yy) (hl4:Xy.length<=6∧Yy.length<=6) (hpx:0<((((dB Xa Ya ((-(dL jm jk)).num) (((-(dL jm jk)).den:Nat):Int)):Nat):Int)*(((dB Lx Ly ((-(dL jn jd)).num) (((-(dL jn jd)).den:Nat):Int)):Nat):Int))) (hax:o5 Xx) (hbx:o5 Yx) (Cn:∀i,i<Xx.length->(qB Lx ((-((dL jn jd)+(dL jm jk))).num) (((-((dL jn jd)+(dL jm jk))).den:Nat):Int)) i*(((((((dB Xa Ya ((-(dL jm jk)).num) (((-(dL jm jk)).den:Nat):Int)):Nat):Int)*(((dB Lx Ly ((-(dL jn jd)).num) (((-(dL jn jd)).den:Nat):Int)):Nat):Int))):Int):Rat)=((an Xx i:Int):Rat)) (Co:∀i,i<Yx.length->(qB Ly ((-((dL jn jd)+(dL jm jk))).num) (((-((dL jn jd)+(dL jm jk))).den:Nat):Int)) i*(((((((dB Xa Ya ((-(dL jm jk)).num) (((-(dL jm jk)).den:Nat):Int)):Nat):Int)*(((dB Lx Ly ((-(dL jn jd)).num) (((-(dL jn jd)).den:Nat):Int)):Nat):Int))):Int):Rat)=((an Yx i:Int):Rat)) (hxx:mk Xx.length (cuX (qB Lx ((-((dL jn jd)+(dL jm jk))).num) (((-((dL jn jd)+(dL jm jk))).den:Nat):Int)) (dnL (aW Xx.length (qB Lx ((-((dL jn jd)+(dL jm jk))).num) (((-((dL jn jd)+(dL jm jk))).den:Nat):Int)) (qB Ly ((-((dL jn jd)+(dL jm jk))).num) (((-((dL jn jd)+(dL jm jk))).den:Nat):Int))) (Xx.length+Yx.length)))=Xy) (hyx:mk Yx.length (cuX (qB Ly ((-((dL jn jd)+(dL jm jk))).num) (((-((dL jn jd)+(dL jm jk))).den:Nat):Int)) (dnL (aW Xx.length (qB Lx ((-((dL jn jd)+(dL jm jk))).num) (((-((dL jn jd)+(dL jm jk))).den:Nat):Int)) (qB Ly ((-((dL jn jd)+(dL jm jk))).num) (((-((dL jn jd)+(dL jm jk))).den:Nat):Int))) (Xx.length+Yx.length)))=Yy) (hdx:(((dnL (aW Xx.length (qB Lx ((-((dL jn jd)+(dL jm jk))).num) (((-((dL jn jd)+(dL jm jk))).den:Nat):Int)) (qB Ly ((-((dL jn jd)+(dL jm jk))).num) (((-((dL jn jd)+(dL jm jk))).den:Nat):Int))) (Xx.length+Yx.length)):Nat):Int)=(((dB Lx Ly ((-((dL jn jd)+(dL jm jk))).num) (((-((dL jn jd)+(dL jm jk))).den:Nat):Int)):Nat):Int)) (Cp:((max (tl (an Xa) Xa.length-1) (tl (an Ya) Ya.length-1):Nat):Int)=((max (tl (an Lx) Lx.length-1) (tl (an Ly) Ly.length-1):Nat):Int)):ai (ph (E5 aa ab xsa xsb dq dr ma mb Na Nb a0 xs0 z0 jn jd jm jk Lx Ly Xa Ya Xb Yb Xx Yx Xy Yy)) Tryz.prog ⟨8,[.parts (.agg [.s,.s,.b,.s]) [(0,1,0),(1,1,1),(2,2,2)],.fact 3,.fact 4,.fact 5,.fact 6],oT,false⟩:=by
 skip
 exact bg E7 oT E6 Tryz.func8 (by kernel_rfl)
  (lB (CO 3 1 rfl rfl ad ad ad rfl rfl rfl (by omega) hna hnb hza hzb il io hz0)
   (lB (tW ad ad rfl)
   (lB (tW ad ad rfl)
   (lB (AR (x:=dq) (y:=dr) (k:=1) (Rw.To 2 (If dq 1) Na (fun _ _ _ _ h=>h)) (Rw.To 2 (If dr 1) Nb (fun _ _ _ _ h=>h)) rfl rfl rfl (by omega) (by omega) (by omega) hLx hLy)
   (lB (CI tS rfl rfl rfl (by omega))
   (lB (ua (k:=1) (kt:=6) (t:=(dL jn jd)) (Rw.To 2 (If dq 1) Na (fun _ _ _ _ h=>h)) (Rw.To 2 (If dr 1) Nb (fun _ _ _ _ h=>h)) pQ rfl rfl rfl (by omega) (by omega) hC1 hX1 hY1)
   (lB (Ch tS rfl rfl rfl rfl)
   (lB (CI tS rfl rfl rfl (by omega))
   (lB (ua (k:=3) (kt:=6) (t:=-(dL jn jd)) (fun w v h=>tY hXa3 h) (fun w v h=>tY tQ h) pQ rfl rfl rfl (by omega) (by omega) hC2 hX2 hY2)
   (lB (jr nI nI rfl (by omega) rfl)
   (lB (DM (A:=Xb) (B:=Yb) (C:=(((dB Xa Ya ((-(-(dL jn jd))).num) (((-(-(dL jn jd))).den:Nat):Int)):Nat):Int)*(((dB Lx Ly ((-(dL jn jd)).num) (((-(dL jn jd)).den:Nat):Int)):Nat):Int)) (k:=680) (fun w v h=>Rw.to (sz:=2) (n:=Xb.length) (F:=If (an Xb) 340) ((Rw.To 2 (Nf (an Xb) 340) Xb.length (fun _ _ _ _ h=>ak.i h)) w v h) fun i w v _ h=>aj.more h (by omega)) (fun w v h=>Rw.to (sz:=2) (n:=Yb.length) (F:=If (an Yb) 340) ((Rw.To 2 (Nf (an Yb) 340) Yb.length (fun _ _ _ _ h=>ak.i h)) w v h) fun i w v _ h=>aj.more h (by omega)) (fun _ _ h=>aj.more (nI _ _ h) (by omega)) rfl rfl rfl (by omega) (by omega) (by omega) hpb hab hbb Ck Cm hxb hyb hdb)
   (lB (CI tS rfl rfl rfl (by omega))
   (lB (ua (k:=3) (kt:=6) (t:=(dL jm jk)) (fun w v h=>tY hXa3 h) (fun w v h=>tY tQ h) pQ rfl rfl rfl (by omega) (by omega) uF hX3 hY3)
   (lB (jr nI nI rfl (by omega) rfl)
   (lB (DM (A:=Xx) (B:=Yx) (C:=(((dB Xa Ya ((-(dL jm jk)).num) (((-(dL jm jk)).den:Nat):Int)):Nat):Int)*(((dB Lx Ly ((-(dL jn jd)).num) (((-(dL jn jd)).den:Nat):Int)):Nat):Int)) (k:=680) (fun w v h=>Rw.to (sz:=2) (n:=Xx.length) (F:=If (an Xx) 340) ((Rw.To 2 (Nf (an Xx) 340) Xx.length (fun _ _ _ _ h=>ak.i h)) w v h) fun i w v _ h=>aj.more h (by omega)) (fun w v h=>Rw.to (sz:=2) (n:=Yx.length) (F:=If (an Yx) 340) ((Rw.To 2 (Nf (an Yx) 340) Yx.length (fun _ _ _ _ h=>ak.i h)) w v h) fun i w v _ h=>aj.more h (by omega)) (fun _ _ h=>aj.more (nI _ _ h) (by omega)) rfl rfl rfl (by omega) (by omega) (by omega) hpx hax hbx Cn Co hxx hyx hdx)
   (lB (CI tS rfl rfl rfl (by omega))
   (lB (CI tS rfl rfl rfl (by omega))
   (lB (QR pQ pQ rfl rfl rfl (by omega) rfl)
   (lB (ua (k:=1) (kt:=(2*(6+6)+9)) (t:=(dL jn jd)+(dL jm jk)) (Rw.To 2 (If dq 1) Na (fun _ _ _ _ h=>h)) (Rw.To 2 (If dr 1) Nb (fun _ _ _ _ h=>h)) pQ rfl rfl rfl (by omega) (by omega) uH hX4 hY4)
   (lB (AM (X:=(an Lx)) (Y:=(an Ly)) (D:=(1:Int)) (nx:=Lx.length) (ny:=Ly.length) (k0:=1) (k1:=1) (k2:=2) (k3:=680) (k4:=680) (k5:=680) ad ad ad ad ad ad (by omega) (by omega))
   (lB (AM (X:=(an Xy)) (Y:=(an Yy)) (D:=(((dB Lx Ly ((-((dL jn jd)+(dL jm jk))).num) (((-((dL jn jd)+(dL jm jk))).den:Nat):Int)):Nat):Int)) (nx:=Xy.length) (ny:=Yy.length) (k0:=680) (k1:=680) (k2:=680) (k3:=340) (k4:=340) (k5:=340) ad ad ad ad ad ad (by omega) (by omega))
   (lB (BT (x:=(an Xa)) (y:=(an Ya)) (nx:=Xa.length) (ny:=Ya.length) (k:=340) (Rw.To 2 (Nf (an Xa) 340) Xa.length (fun _ _ _ _ h=>ak.i h)) (Rw.To 2 (Nf (an Ya) 340) Ya.length (fun _ _ _ _ h=>ak.i h)) rfl (by omega) (by omega) (by omega))
   (lB (BT (x:=(an Lx)) (y:=(an Ly)) (nx:=Lx.length) (ny:=Ly.length) (k:=1) (Rw.To 2 (Nf (an Lx) 1) Lx.length (fun _ _ _ _ h=>ak.i h)) (Rw.To 2 (Nf (an Ly) 1) Ly.length (fun _ _ _ _ h=>ak.i h)) rfl (by omega) (by omega) (by omega))
   (lB (p9 (op:=.eql) ad ad (cw (decide_eq_true Cp) (by simp)))
   (lB (C0)
   aC)))))))))))))))))))))))))
  (aK [.parts (.agg [.s,.s,.b,.s]) [(0,1,0),(1,1,1),(2,2,2)],.fact 3 (.one (.i)),.fact 4 (.one (.i)),.fact 5 (.one (.i)),.fact 6 (.one (.i))] ⟨trivial,fun _ _ h=>h▸dl _,fun _ _ h=>h▸dl _,fun _ _ h=>h▸dl _,fun _ _ h=>h▸dl _,trivial⟩) (fun _ _ _ h=>h)
theorem walk {n d m k:Int}{ma mb:Nat}{aa ab:Nat->Bool}{xsa xsb:Nat->List Nat}{w:World}{va vb s0:Value}{c0:Bool}{zs0:List Nat} (hna:ma<=9223372036854775807) (hla:Rw 2 (fun i w v=>aG w v (aa i) (xsa i)) ma w va) (hnb:mb<=9223372036854775807) (hlb:Rw 2 (fun i w v=>aG w v (ab i) (xsb i)) mb w vb) (hx0:Sl w .u32 s0 zs0) (ax0:All 4294967296 zs0):Calls Tryz.prog 8 #[.agg #[va,vb,.bool c0,s0],.int .i64 n,.int .i64 d,.int .i64 m,.int .i64 k] w (qb w true):=by
 obtain ⟨dq,hza⟩:∃ez:Nat->Int,∀j,sg (aa j) (Proofs.YthmcngjhkmpneaaGreat.val 4294967296 ((xsa j).take 1))=ez j:=⟨_,fun _=>rfl⟩
 obtain ⟨dr,hzb⟩:∃ez:Nat->Int,∀j,sg (ab j) (Proofs.YthmcngjhkmpneaaGreat.val 4294967296 ((xsb j).take 1))=ez j:=⟨_,fun _=>rfl⟩
 obtain ⟨Na,il⟩:∃N,min ma 3=N:=⟨_,rfl⟩
 obtain ⟨Nb,io⟩:∃N,min mb 3=N:=⟨_,rfl⟩
 have hs:=tU n d
 have ht:=tU m k
 have hsn:=B6 n d
 have hst:=QN n d m k
 have hba:∀i,i<Na->Bd (dq i).natAbs 1:=fun i hi=>uf hla hza i (by omega)
 have hbb:∀i,i<Nb->Bd (dr i).natAbs 1:=fun i hi=>uf hlb hzb i (by omega)
 obtain ⟨Lx,hLx⟩:∃L,aP (mk Na dq)=L:=⟨_,rfl⟩
 obtain ⟨Ly,hLy⟩:∃L,aP (mk Nb dr)=L:=⟨_,rfl⟩
 have llx:=fE hLx
 have QS:=fE hLy
 have QT:=aV dq Na
 have tly:=aV dr Nb
 have cv:∀{q:Rat},Bd q.num.natAbs 2->Bd q.den 2->ik dq dr Na Nb ((-q).num) (((-q).den:Nat):Int) Lx Ly:=fun {q} h1 h2=>⟨by omega,by omega,hLx,hLy,by omega,by omega,fun i hi=>(hba i hi).more (by omega),fun i hi=>(hbb i hi).more (by omega),by have:=(-q).den_pos;omega,by rw [Rat.neg_num,Int.natAbs_neg];exact h1,by rw [Rat.neg_den,Int.natAbs_natCast];exact h2⟩
 have hC1:=cv (q:=dL n d) (hs.1.more (by omega)) (hs.2.more (by omega))
 have uH:=cv (q:=dL n d+dL m k) hst.1 hst.2
 obtain ⟨Xa,hXa⟩:∃L,mk Lx.length (cuX (qB Lx (-(dL n d)).num (((-(dL n d)).den:Nat):Int)) (dB Lx Ly (-(dL n d)).num (((-(dL n d)).den:Nat):Int)))=L:=⟨_,rfl⟩
 obtain ⟨Ya,hYa⟩:∃L,mk Ly.length (cuX (qB Ly (-(dL n d)).num (((-(dL n d)).den:Nat):Int)) (dB Lx Ly (-(dL n d)).num (((-(dL n d)).den:Nat):Int)))=L:=⟨_,rfl⟩
 obtain ⟨QU,QW,DT,nya,EB,EC⟩:=t9 hC1 hXa hYa
 obtain ⟨QX,sm2⟩:=hC1.small (by omega) (by omega) (by rw [Rat.neg_num,Int.natAbs_neg];exact hsn.1) (by rw [Rat.neg_den,Int.natAbs_natCast];exact hsn.2) hba hbb
 have hXa3:∀i,i<Xa.length->Bd (an Xa i).natAbs 3:=fun i hi=>by
  rw [<- hXa,eu,if_pos (by omega)]
  exact QX i (by omega)
 have tQ:∀i,i<Ya.length->Bd (an Ya i).natAbs 3:=fun i hi=>by
  rw [<- hYa,eu,if_pos (by omega)]
  exact sm2 i (by omega)
 have cv2:∀{q:Rat},Bd q.num.natAbs 1->Bd q.den 1->ik (an Xa) (an Ya) Xa.length Ya.length ((-q).num) (((-q).den:Nat):Int) Xa Ya:=fun {q} h1 h2=>⟨by omega,by omega,tV DT,tV nya,by omega,by omega,hXa3,tQ,by have:=(-q).den_pos;omega,by rw [Rat.neg_num,Int.natAbs_neg];exact h1.more (by omega),by rw [Rat.neg_den,Int.natAbs_natCast];exact h2.more (by omega)⟩
 have hC2:=cv2 (q:=-(dL n d)) (by rw [Rat.neg_num,Int.natAbs_neg];exact hs.1) (by rw [Rat.neg_den];exact hs.2)
 have uF:=cv2 (q:=dL m k) ht.1 ht.2
 obtain ⟨Xb,hXb⟩:∃L,mk Xa.length (cuX (qB Xa (-(-(dL n d))).num (((-(-(dL n d))).den:Nat):Int)) (dB Xa Ya (-(-(dL n d))).num (((-(-(dL n d))).den:Nat):Int)))=L:=⟨_,rfl⟩
 obtain ⟨Yb,hYb⟩:∃L,mk Ya.length (cuX (qB Ya (-(-(dL n d))).num (((-(-(dL n d))).den:Nat):Int)) (dB Xa Ya (-(-(dL n d))).num (((-(-(dL n d))).den:Nat):Int)))=L:=⟨_,rfl⟩
 obtain ⟨Tx,Ty,nxb,QY,Ck,Cm⟩:=t9 hC2 hXb hYb
 obtain ⟨Xx,hXx⟩:∃L,mk Xa.length (cuX (qB Xa (-(dL m k)).num (((-(dL m k)).den:Nat):Int)) (dB Xa Ya (-(dL m k)).num (((-(dL m k)).den:Nat):Int)))=L:=⟨_,rfl⟩
 obtain ⟨Yx,hYx⟩:∃L,mk Ya.length (cuX (qB Ya (-(dL m k)).num (((-(dL m k)).den:Nat):Int)) (dB Xa Ya (-(dL m k)).num (((-(dL m k)).den:Nat):Int)))=L:=⟨_,rfl⟩
 obtain ⟨Tz,lyx,QZ,Q0,Cn,Co⟩:=t9 uF hXx hYx
 obtain ⟨Xy,hXy⟩:∃L,mk Lx.length (cuX (qB Lx (-(dL n d+dL m k)).num (((-(dL n d+dL m k)).den:Nat):Int)) (dB Lx Ly (-(dL n d+dL m k)).num (((-(dL n d+dL m k)).den:Nat):Int)))=L:=⟨_,rfl⟩
 obtain ⟨Yy,hYy⟩:∃L,mk Ly.length (cuX (qB Ly (-(dL n d+dL m k)).num (((-(dL n d+dL m k)).den:Nat):Int)) (dB Lx Ly (-(dL n d+dL m k)).num (((-(dL n d+dL m k)).den:Nat):Int)))=L:=⟨_,rfl⟩
 obtain ⟨lxy,TA,nxy,nyy,Q1,Q2⟩:=t9 uH hXy hYy
 have pos:∀{A B:List Int}{u v:Int},(0:Int)<((dB A B u v:Nat):Int):=fun {A B u v}=>Int.natCast_pos.2 (kh _ _)
 have dvx:∀i,i<Lx.length->qB Lx (-(dL n d+dL m k)).num (((-(dL n d+dL m k)).den:Nat):Int) i*(((((dB Lx Ly (-(dL n d+dL m k)).num (((-(dL n d+dL m k)).den:Nat):Int):Nat):Int)):Int):Rat)=((an Xy i:Int):Rat):=fun i hi=>by
  have:=jf (q:=aW Lx.length (qB Lx (-(dL n d+dL m k)).num (((-(dL n d+dL m k)).den:Nat):Int)) (qB Ly (-(dL n d+dL m k)).num (((-(dL n d+dL m k)).den:Nat):Int))) (n:=Lx.length+Ly.length) (i:=i) (by omega)
  rw [aW,if_pos hi] at this
  rw [mr this,<- hXy,eu,if_pos hi]
 have Q3:∀i,i<Ly.length->qB Ly (-(dL n d+dL m k)).num (((-(dL n d+dL m k)).den:Nat):Int) i*(((((dB Lx Ly (-(dL n d+dL m k)).num (((-(dL n d+dL m k)).den:Nat):Int):Nat):Int)):Int):Rat)=((an Yy i:Int):Rat):=fun i hi=>by
  have:=jf (q:=aW Lx.length (qB Lx (-(dL n d+dL m k)).num (((-(dL n d+dL m k)).den:Nat):Int)) (qB Ly (-(dL n d+dL m k)).num (((-(dL n d+dL m k)).den:Nat):Int))) (n:=Lx.length+Ly.length) (i:=Lx.length+i) (by omega)
  rw [aW,if_neg (by omega),Nat.add_sub_cancel_left] at this
  rw [mr this,<- hYy,eu,if_pos hi]
 have t1:∀t:Rat,t - -(dL n d)-dL n d=t:=fun t=>by grind
 have t2:∀t:Rat,t-dL m k-dL n d=t-(dL n d+dL m k):=fun t=>by grind
 have one:∀{L M A B:List Int},A.length=L.length->B.length=M.length->dnL (aW A.length (fun i=>((an L i:Int):Rat)) (fun i=>((an M i:Int):Rat))) (A.length+B.length)=1:=fun {L M A B} h1 h2=>by rw [h1];exact DR QO _
 refine Fa (path (a0:=c0) (xs0:=zs0) (Lx:=Lx) (Ly:=Ly) (Xa:=Xa) (Ya:=Ya) (Xb:=Xb) (Yb:=Yb) (Xx:=Xx) (Yx:=Yx) (Xy:=Xy) (Yy:=Yy) hna hnb hza hzb il io rfl hLx hLy (by omega) (by omega) hC1 hXa hYa (by omega) hXa3 tQ hC2 hXb hYb (by omega) (Int.mul_pos pos pos) nxb QY ?_ ?_ ?_ ?_ ?_ uF hXx hYx (by omega) uH hXy hYy (by omega) (Int.mul_pos pos pos) QZ Q0 ?_ ?_ ?_ ?_ ?_ ?_) (vs:=[.agg #[va,vb,.bool c0,s0],.int .i64 n,.int .i64 d,.int .i64 m,.int .i64 k]) ⟨CR hla hlb ⟨_,rfl,hx0,ax0⟩ rfl rfl rfl,fun _ _=>rfl,fun _ _=>rfl,fun _ _=>rfl,fun _ _=>rfl,trivial⟩
 ·refine uE (B:=Lx) (D:=1) (by omega) (by omega) (fun i _=>?_) (fun t=>?_)
  ·show _*(1:Rat)=_
   rw [Rat.mul_one]
  ·rw [Ck,EB,t1,tJ hLx,Rat.intCast_mul]
   show (1:Rat)*_=_
   grind
 ·refine uE (B:=Ly) (D:=1) (by omega) (by omega) (fun i _=>?_) (fun t=>?_)
  ·show _*(1:Rat)=_
   rw [Rat.mul_one]
  ·rw [Cm,EC,t1,tJ hLy,Rat.intCast_mul]
   show (1:Rat)*_=_
   grind
 ·rw [one (L:=Lx) (M:=Ly) (A:=Xb) (B:=Yb) (by omega) (by omega),show Xb.length=Lx.length by omega]
  exact (mk_congr fun i _=>DS Lx i).trans (DL Lx)
 ·rw [one (L:=Lx) (M:=Ly) (A:=Xb) (B:=Yb) (by omega) (by omega),show Yb.length=Ly.length by omega]
  exact (mk_congr fun i _=>DS Ly i).trans (DL Ly)
 ·rw [one (L:=Lx) (M:=Ly) (A:=Xb) (B:=Yb) (by omega) (by omega)];rfl
 ·refine uE (B:=Xy) (Int.ne_of_gt pos) (by omega) (fun i hi=>dvx i (by omega)) (fun t=>?_)
  rw [Cn,EB,Q1,t2,Rat.intCast_mul]
  grind
 ·refine uE (B:=Yy) (Int.ne_of_gt pos) (by omega) (fun i hi=>Q3 i (by omega)) (fun t=>?_)
  rw [Co,EC,Q2,t2,Rat.intCast_mul]
  grind
 ·rw [show Xx.length=Lx.length by omega,show Yx.length=Ly.length by omega];exact hXy
 ·rw [show Xx.length=Lx.length by omega,show Yx.length=Ly.length by omega];exact hYy
 ·rw [show Xx.length=Lx.length by omega,show Yx.length=Ly.length by omega]
 ·rw [pg DT,pg nya,pg (show o5 Lx from hLx▸tK _),pg (show o5 Ly from hLy▸tK _),QU,QW]
theorem lifted (os:Os) (started:os.Started) (H:Type) (enc:TypeId×Value->H) :
  ReturnsInHanded {} Tryz.checked os 8 .any (Rows.curveBackSpec.pre6 enc Tryz.prog Tryz.f8 Rows.curveBackRow.domain false) (Rows.curveBackSpec.post enc Tryz.prog Tryz.f8 false true false false):=by
 refine returnsInHanded_of_change (C:=Tryz.checked) Tryz.own started (by kernel_rfl) Tryz.func8
  (ChangeSpec.witness6 (enc:=enc) (C:=Tryz.checked) false ⟨#[],#[.agg #[.slice none 0 0,.slice none 0 0,.bool false,.slice none 0 0],.int .i64 0,.int .i64 0,.int .i64 0,.int .i64 0],[]⟩ 8 (by kernel_rfl) (by kernel_rfl) (by kernel_rfl) (by kernel_rfl)) ?_
 intro W base args ds gs before hval0 hW _ _
 have hval:∀(j:Nat) t v,Tryz.f8.params[j]?=some t->args[j]?=some v->Value.okWide Tryz.prog W .any base t v:=hval0
 obtain ⟨p,q,hA0,hV,rfl,_,_⟩:=id hW
 have hA:DataW.TrodAll enc Tryz.prog W 0 (fun _=>true) true Tryz.f8.params.toList args.toList ds p:=hA0
 rw [Tryz.params8] at hA hval
 obtain ⟨v0,P3,d0,ds0,p0,q0,hargs,rfl,rfl,h0,r0⟩:=trodAll_cons hA
 obtain ⟨v1,vs1,d1,ds1,p1,q1,rfl,rfl,rfl,h1,r1⟩:=trodAll_cons r0
 obtain ⟨v2,vs2,d2,Q4,p2,q2,rfl,rfl,rfl,h2,r2⟩:=trodAll_cons r1
 obtain ⟨v3,vs3,d3,ds3,p3,q3,rfl,rfl,rfl,h3,r3⟩:=trodAll_cons r2
 obtain ⟨v4,vs4,d4,Q5,p4,q4,rfl,rfl,rfl,h4,r4⟩:=trodAll_cons r3
 obtain ⟨rfl,rfl,rfl⟩:=trodAll_nil r4
 obtain rfl:args = #[v0,v1,v2,v3,v4]:=by cases args;simp_all
 obtain ⟨x0,y0,b0,w0,n0,m0,a0,a0',xs0,ys0,zs0,rfl,l0,s0,l0',Fb,t0,u0⟩:=CH h0 (hval 0 53 v0 rfl rfl)
 obtain ⟨n1,rfl,rfl,rfl,f1⟩:=open_int Tryz.underlying3 (hval 1 3 v1 rfl rfl) h1
 obtain ⟨n2,rfl,rfl,rfl,f2⟩:=open_int Tryz.underlying3 (hval 2 3 v2 rfl rfl) h2
 obtain ⟨n3,rfl,rfl,rfl,f3⟩:=open_int Tryz.underlying3 (hval 3 3 v3 rfl rfl) h3
 obtain ⟨n4,rfl,rfl,rfl,f4⟩:=open_int Tryz.underlying3 (hval 4 3 v4 rfl rfl) h4
 refine (walk l0 s0 l0' Fb t0 u0).mono fun e W' ⟨he,hg⟩=>?_
 subst he
 refine ⟨_,rfl,Fd Tryz.laidOut rfl (by kernel_rfl) Tryz.underlying4 ?_ ?_ hW hg⟩
 ·rw [Tryz.params8];decide +kernel
 ·rw [Tryz.params8]
  intro ds h
  match ds,h with
  | [_,_,_,_,_],_=>rfl
theorem holds:Rows.CurveBackSaid:=
 OpenClaim.holds_of_wide 8 Tryz.f8 rfl rfl rfl rfl rfl rfl rfl ⟨rfl,rfl,rfl,rfl,rfl⟩ rfl rfl rfl rfl rfl (by kernel_rfl) Tryz.func8 (by kernel_rfl)
  (of_decide_eq_true (by kernel_rfl)) (by unfold Func.isWrapper;first | (rw [if_pos (by decide +kernel)];kernel_rfl) | (rw [if_neg (by decide +kernel)];exact ⟨rfl,rfl⟩))
  (fun os started H enc _=>lifted os started H enc)
end Go.Proofs.YthmcngjhkmpneaaGreat.cback
