/- CurveRebases holds: for every curve and every rational the law returns true and leaves them as they were. No condition. -/
import Derived.Test.YthmcngjhkmpneaaGreatCurW
set_option maxRecDepth 100000
namespace Go.Proofs.YthmcngjhkmpneaaGreat.crebases
open Go.ChangeShapes Go.WideShapes Go.ChangeAt Go.RowKit
open Go.Proofs.YthmcngjhkmpneaaGreat.Sym hiding val run start
def E5 (aa ab:Nat->Bool) (xsa xsb:Nat->List Nat) (dq dr:Nat->Int) (ma mb Na Nb:Nat) (a0:Bool) (xs0:List Nat) (z0:Int) (b1 b2:Bool) (xs1 xs2:List Nat) (sz su:Int) (Lx Ly X Y:List Int):List WP:=[fun w v=>Rw 2 (fun ι w v=>aG w v (aa ι) (xsa ι)) ma w v,fun w v=>Rw 2 (fun ι w v=>aG w v (ab ι) (xsb ι)) mb w v,fun w v=>aG w v a0 xs0,fun w v=>bE w v b1 xs1 b2 xs2,Rw 2 (If dq 2) Na,Rw 2 (If dr 2) Nb,Iw z0 2,fun w v=>QV w v sz su 1,Dw (aD sz su) (2*1+2),fun w v=>ae w v ((aD sz su).num) (2*1+2),fun w v=>ae w v ((aD sz su).den:Int) (2*1+2),Rw 2 (Nf (an X) 340) X.length,Rw 2 (Nf (an Y) 340) Y.length,Nw (((dB Lx Ly ((-(aD sz su)).num) (((-(aD sz su)).den:Nat):Int)):Nat):Int) 340,Rw 2 (Nf (an X) 340) X.length,Rw 2 (Nf (an Y) 340) Y.length,Nw (((dB Lx Ly ((-(aD sz su)).num) (((-(aD sz su)).den:Nat):Int)):Nat):Int) 340]
def E6:List Step:=[.base ⟨25,[.parts cS [(0,1,0),(1,1,1),(2,2,2)],.lit (.ci .i64 3),.lit (.ci .i64 2)],[⟨.agg [.s,.s,.b,.s],[(0,1,4),(1,1,5),(2,2,6)]⟩],false⟩,
   .base ⟨26,[.fact 3,.lit (.ci .i64 1)],[oR 7],false⟩,
   .base ⟨29,[.fact 7],[⟨.agg [.s,.b,.s,.b],[(0,0,8),(0,2,9),(2,2,10)]⟩],false⟩,
   .base ⟨28,[.fact 4,.fact 5,.fact 8],[⟨.agg [.s,.s,.s,.s,.b,.s],[(2,1,11),(3,1,12),(4,2,13)]⟩],false⟩,
   .base ⟨30,[.fact 4,.fact 5,.fact 7],[⟨.agg [.s,.s,.b,.s],[(0,1,14),(1,1,15),(2,2,16)]⟩],false⟩,
   .base ⟨27,[.parts tc [(2,1,11),(3,1,12),(4,2,13)],.parts cS [(0,1,14),(1,1,15),(2,2,16)]],oT,false⟩,
   .base ⟨31,[],oT,false⟩]
def E7:List Out:=[⟨.agg [.s,.s,.b,.s],[(0,1,0),(1,1,1),(2,2,2)]⟩,oR 3]
theorem path {aa ab:Nat->Bool}{xsa xsb:Nat->List Nat}{dq dr:Nat->Int}{ma mb Na Nb:Nat}{a0:Bool}{xs0:List Nat}{z0:Int}{b1 b2:Bool}{xs1 xs2:List Nat}{sz su:Int}{Lx Ly X Y:List Int} (hna:ma<=9223372036854775807) (hnb:mb<=9223372036854775807) (hza:∀j,sg (aa j) (Proofs.YthmcngjhkmpneaaGreat.val 4294967296 ((xsa j).take 2))=dq j) (hzb:∀j,sg (ab j) (Proofs.YthmcngjhkmpneaaGreat.val 4294967296 ((xsb j).take 2))=dr j) (il:min ma 3=Na) (io:min mb 3=Nb) (hz0:sg a0 (Proofs.YthmcngjhkmpneaaGreat.val 4294967296 (xs0.take 2))=z0) (hsz:sg b1 (Proofs.YthmcngjhkmpneaaGreat.val 4294967296 (xs1.take 1))=sz) (hsu:sg b2 (Proofs.YthmcngjhkmpneaaGreat.val 4294967296 (xs2.take 1))=su) (hC:ik dq dr Na Nb ((-(aD sz su)).num) (((-(aD sz su)).den:Nat):Int) Lx Ly) (hX:mk Lx.length (cuX (qB Lx ((-(aD sz su)).num) (((-(aD sz su)).den:Nat):Int)) (dB Lx Ly ((-(aD sz su)).num) (((-(aD sz su)).den:Nat):Int)))=X) (hY:mk Ly.length (cuX (qB Ly ((-(aD sz su)).num) (((-(aD sz su)).den:Nat):Int)) (dB Lx Ly ((-(aD sz su)).num) (((-(aD sz su)).den:Nat):Int)))=Y) (hXl:X.length<=6) (hYl:Y.length<=6):ai (ph (E5 aa ab xsa xsb dq dr ma mb Na Nb a0 xs0 z0 b1 b2 xs1 xs2 sz su Lx Ly X Y)) Tryz.prog ⟨6,[.parts (.agg [.s,.s,.b,.s]) [(0,1,0),(1,1,1),(2,2,2)],.fact 3],oT,false⟩:=by
 skip
 exact bg E7 oT E6 Tryz.func6 (by kernel_rfl)
  (lB (CO 3 2 rfl rfl ad ad ad rfl rfl rfl (by omega) hna hnb hza hzb il io hz0)
   (lB (E8 1 rfl ad rfl hsz hsu)
   (lB (E9 (z:=sz) (y:=su) ad rfl rfl rfl (by omega) rfl)
   (lB (CE (k:=2) (ks:=(2*1+2)) (t:=(aD sz su)) (Rw.To 2 (If dq 2) Na (fun _ _ _ _ h=>h)) (Rw.To 2 (If dr 2) Nb (fun _ _ _ _ h=>h)) tS rfl rfl rfl (by omega) (by omega) hC (Rat.num_divInt_den _).symm hX hY)
   (lB (ua (k:=2) (kt:=1) (t:=(aD sz su)) (Rw.To 2 (If dq 2) Na (fun _ _ _ _ h=>h)) (Rw.To 2 (If dr 2) Nb (fun _ _ _ _ h=>h)) vQ rfl rfl rfl (by omega) (by omega) hC hX hY)
   (lB (AR (X:=(an X)) (Y:=(an Y)) (D:=(((dB Lx Ly ((-(aD sz su)).num) (((-(aD sz su)).den:Nat):Int)):Nat):Int)) (nx:=X.length) (ny:=Y.length) (k0:=340) (k1:=340) (k2:=340) (k3:=340) (k4:=340) (k5:=340) ad ad ad ad ad ad (by omega) (by omega))
   (lB (C0)
   aC)))))))
  (aK [.parts (.agg [.s,.s,.b,.s]) [(0,1,0),(1,1,1),(2,2,2)],.fact 3 (.agg [.b,.s,.b,.s])] ⟨trivial,fun _ _ h=>bE.is h,trivial⟩) bh
theorem walk {ma mb:Nat}{aa ab:Nat->Bool}{xsa xsb:Nat->List Nat}{w:World}{va vb s0 s1 s2:Value}{c0 c1 c2:Bool}{zs0 p9 qa:List Nat} (hna:ma<=9223372036854775807) (hla:Rw 2 (fun i w v=>aG w v (aa i) (xsa i)) ma w va) (hnb:mb<=9223372036854775807) (hlb:Rw 2 (fun i w v=>aG w v (ab i) (xsb i)) mb w vb) (hx0:Sl w .u32 s0 zs0) (ax0:All 4294967296 zs0) (hx1:Sl w .u32 s1 p9) (ax1:All 4294967296 p9) (hx2:Sl w .u32 s2 qa) (vS:All 4294967296 qa):Calls Tryz.prog 6 #[.agg #[va,vb,.bool c0,s0],.agg #[.bool c1,s1,.bool c2,s2]] w (qb w true):=by
 obtain ⟨dq,hza⟩:∃ez:Nat->Int,∀j,sg (aa j) (Proofs.YthmcngjhkmpneaaGreat.val 4294967296 ((xsa j).take 2))=ez j:=⟨_,fun _=>rfl⟩
 obtain ⟨dr,hzb⟩:∃ez:Nat->Int,∀j,sg (ab j) (Proofs.YthmcngjhkmpneaaGreat.val 4294967296 ((xsb j).take 2))=ez j:=⟨_,fun _=>rfl⟩
 obtain ⟨Na,il⟩:∃N,min ma 3=N:=⟨_,rfl⟩
 obtain ⟨Nb,io⟩:∃N,min mb 3=N:=⟨_,rfl⟩
 obtain ⟨sz,hsz⟩:∃z,sg c1 (Proofs.YthmcngjhkmpneaaGreat.val 4294967296 (p9.take 1))=z:=⟨_,rfl⟩
 obtain ⟨su,hsu⟩:∃z,sg c2 (Proofs.YthmcngjhkmpneaaGreat.val 4294967296 (qa.take 1))=z:=⟨_,rfl⟩
 have hz1:Bd sz.natAbs 1:=by rw [<- hsz,cC];exact Bd.row _ ax1 1
 have hz2:Bd su.natAbs 1:=by rw [<- hsu,cC];exact Bd.row _ vS 1
 have hq:=CS (by omega) hz1 hz2
 have hlx:(aP (mk Na dq)).length<=3:=by rw [fe];exact Nat.le_trans (aV _ _) (by omega)
 have hly:(aP (mk Nb dr)).length<=3:=by rw [fe];exact Nat.le_trans (aV _ _) (by omega)
 have hC:ik dq dr Na Nb ((-(aD sz su)).num) (((-(aD sz su)).den:Nat):Int) (aP (mk Na dq)) (aP (mk Nb dr)):=⟨by omega,by omega,rfl,rfl,by omega,by omega,fun i hi=>(uf hla hza i (by omega)).more (by omega),fun i hi=>(uf hlb hzb i (by omega)).more (by omega),by have:=(-(aD sz su)).den_pos;omega,by rw [Rat.neg_num,Int.natAbs_neg];exact hq.1.more (by omega),by rw [Rat.neg_den,Int.natAbs_natCast];exact hq.2.more (by omega)⟩
 exact Fa (path (a0:=c0) (xs0:=zs0) hna hnb hza hzb il io rfl hsz hsu hC rfl rfl (by rw [eM];omega) (by rw [eM];omega)) (vs:=[.agg #[va,vb,.bool c0,s0],.agg #[.bool c1,s1,.bool c2,s2]]) ⟨CR hla hlb ⟨_,rfl,hx0,ax0⟩ rfl rfl rfl,cW rfl (fun _ _ _ g h=>bE.kp h g) ⟨_,_,rfl,hx1,ax1,hx2,vS⟩,trivial⟩
theorem lifted (os:Os) (started:os.Started) (H:Type) (enc:TypeId×Value->H) :
  ReturnsInHanded {} Tryz.checked os 6 .any (Rows.curveRebasesSpec.pre6 enc Tryz.prog Tryz.f6 Rows.curveRebasesRow.domain false) (Rows.curveRebasesSpec.post enc Tryz.prog Tryz.f6 false true false false):=by
 refine returnsInHanded_of_change (C:=Tryz.checked) Tryz.own started (by kernel_rfl) Tryz.func6
  (ChangeSpec.witness6 (enc:=enc) (C:=Tryz.checked) false ⟨#[],#[.agg #[.slice none 0 0,.slice none 0 0,.bool false,.slice none 0 0],.agg #[.bool false,.slice none 0 0,.bool false,.slice none 0 0]],[]⟩ 8 (by kernel_rfl) (by kernel_rfl) (by kernel_rfl) (by kernel_rfl)) ?_
 intro W base args ds gs before hval0 hW _ _
 have hval:∀(j:Nat) t v,Tryz.f6.params[j]?=some t->args[j]?=some v->Value.okWide Tryz.prog W .any base t v:=hval0
 obtain ⟨p,q,hA0,hV,rfl,_,_⟩:=id hW
 have hA:DataW.TrodAll enc Tryz.prog W 0 (fun _=>true) true Tryz.f6.params.toList args.toList ds p:=hA0
 rw [Tryz.params6] at hA hval
 obtain ⟨v0,P3,d0,ds0,p0,q0,hargs,rfl,rfl,h0,r0⟩:=trodAll_cons hA
 obtain ⟨v1,vs1,d1,ds1,p1,q1,rfl,rfl,rfl,h1,r1⟩:=trodAll_cons r0
 obtain ⟨rfl,rfl,rfl⟩:=trodAll_nil r1
 obtain rfl:args = #[v0,v1]:=by cases args;simp_all
 obtain ⟨x0,y0,b0,w0,n0,m0,a0,a0',xs0,ys0,zs0,rfl,l0,s0,l0',Fb,t0,u0⟩:=CH h0 (hval 0 53 v0 rfl rfl)
 obtain ⟨b1,w1,b1',w1',xs1,ys1,rfl,s1,a1,s1',a1'⟩:=Fc h1 (hval 1 55 v1 rfl rfl)
 refine (walk l0 s0 l0' Fb t0 u0 s1 a1 s1' a1').mono fun e W' ⟨he,hg⟩=>?_
 subst he
 refine ⟨_,rfl,Fd Tryz.laidOut rfl (by kernel_rfl) Tryz.underlying4 ?_ ?_ hW hg⟩
 ·rw [Tryz.params6];decide +kernel
 ·rw [Tryz.params6]
  intro ds h
  match ds,h with
  | [_,_],_=>rfl
theorem holds:Rows.CurveRebasesSaid:=
 OpenClaim.holds_of_wide 6 Tryz.f6 rfl rfl rfl rfl rfl rfl rfl ⟨rfl,rfl,rfl,rfl,rfl⟩ rfl rfl rfl rfl rfl (by kernel_rfl) Tryz.func6 (by kernel_rfl)
  (of_decide_eq_true (by kernel_rfl)) (by unfold Func.isWrapper;first | (rw [if_pos (by decide +kernel)];kernel_rfl) | (rw [if_neg (by decide +kernel)];exact ⟨rfl,rfl⟩))
  (fun os started H enc _=>lifted os started H enc)
end Go.Proofs.YthmcngjhkmpneaaGreat.crebases
