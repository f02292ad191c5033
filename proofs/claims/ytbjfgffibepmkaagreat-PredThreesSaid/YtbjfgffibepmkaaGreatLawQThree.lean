/- PredThrees holds: for every row of points the law returns true and leaves it as it was. No condition. -/

import Derived.Test.YtbjfgffibepmkaaGreatPrV
set_option maxRecDepth 100000
namespace Go.Proofs.YtbjfgffibepmkaaGreat.pthree
open Go.Proofs.Tryz
open Go.ChangeShapes Go.WideShapes Go.ChangeAt Go.RowKit
open Go.Proofs.YtbjfgffibepmkaaGreat.Sym hiding val run start
variable {ax ay:Nat->Nat->Bool}{xx xy:Nat->Nat->List Nat}{mx my:Nat->Nat}{b0:Nat->Bool}{x0:Nat->List Nat}{nl:Nat}
def tZ (ax ay:Nat->Nat->Bool) (xx xy:Nat->Nat->List Nat) (mx my:Nat->Nat) (b0:Nat->Bool) (x0:Nat->List Nat) (x y:Nat->Nat->Int) (nx ny:Nat->Nat) (d:Nat->Int) (X Y:Nat->List Int) (D:Nat->Int) (nl:Nat):List WP:=[Rw 5 (bj ax ay xx xy mx my b0 x0) nl,Rw 2 (If (x 0) 1) (nx 0),Rw 2 (If (y 0) 1) (ny 0),Iw (d 0) 1,Rw 2 (If (x 1) 1) (nx 1),Rw 2 (If (y 1) 1) (ny 1),Iw (d 1) 1,Rw 2 (If (x 2) 1) (nx 2),Rw 2 (If (y 2) 1) (ny 2),Iw (d 2) 1,Rw 2 (If (x 3) 1) (nx 3),Rw 2 (If (y 3) 1) (ny 3),Iw (d 3) 1,fun w v=>Rw 4 (fun ι w v=>af w v ((aE (ceE (d 0)) (ae (an (mk (nx 0) (x 0)))) ι)) 1) ((an (mk (nx 0) (x 0))).length) w v,fun w v=>Rw 4 (fun ι w v=>af w v ((aE (ceE (d 0)) (ae (an (mk (ny 0) (y 0)))) ι)) 1) ((an (mk (ny 0) (y 0))).length) w v,Rw 2 (Nf (ae (X 0)) 1) ((X 0).length),Rw 2 (Nf (ae (Y 0)) 1) ((Y 0).length),Nw (D 0) 1,fun w v=>Rw 4 (fun ι w v=>af w v ((aE (ceE (d 1)) (ae (an (mk (nx 1) (x 1)))) ι)) 1) ((an (mk (nx 1) (x 1))).length) w v,fun w v=>Rw 4 (fun ι w v=>af w v ((aE (ceE (d 1)) (ae (an (mk (ny 1) (y 1)))) ι)) 1) ((an (mk (ny 1) (y 1))).length) w v,Rw 2 (Nf (ae (X 1)) 1) ((X 1).length),Rw 2 (Nf (ae (Y 1)) 1) ((Y 1).length),Nw (D 1) 1,fun w v=>Rw 4 (fun ι w v=>af w v ((aE (ceE (d 2)) (ae (an (mk (nx 2) (x 2)))) ι)) 1) ((an (mk (nx 2) (x 2))).length) w v,fun w v=>Rw 4 (fun ι w v=>af w v ((aE (ceE (d 2)) (ae (an (mk (ny 2) (y 2)))) ι)) 1) ((an (mk (ny 2) (y 2))).length) w v,Rw 2 (Nf (ae (X 2)) 1) ((X 2).length),Rw 2 (Nf (ae (Y 2)) 1) ((Y 2).length),Nw (D 2) 1,fun w v=>Rw 4 (fun ι w v=>af w v ((aE (ceE (d 3)) (ae (an (mk (nx 3) (x 3)))) ι)) 1) ((an (mk (nx 3) (x 3))).length) w v,fun w v=>Rw 4 (fun ι w v=>af w v ((aE (ceE (d 3)) (ae (an (mk (ny 3) (y 3)))) ι)) 1) ((an (mk (ny 3) (y 3))).length) w v,Rw 2 (Nf (ae (X 3)) 1) ((X 3).length),Rw 2 (Nf (ae (Y 3)) 1) ((Y 3).length),Nw (D 3) 1,fun w v=>Rw 4 (fun ι w v=>af w v ((((ae (aI 3 (orM (X 0) (Y 0) (X 1) (Y 1) (X 2) (Y 2) (D 0) (D 1) (D 2)))) ι:Int):Rat)) 2000) ((aI 3 (orM (X 0) (Y 0) (X 1) (Y 1) (X 2) (Y 2) (D 0) (D 1) (D 2))).length) w v,Rw 2 (Nf (ae (aI 3 (orM (X 0) (Y 0) (X 1) (Y 1) (X 2) (Y 2) (D 0) (D 1) (D 2)))) 2000) ((aI 3 (orM (X 0) (Y 0) (X 1) (Y 1) (X 2) (Y 2) (D 0) (D 1) (D 2))).length)]
def ua:List Step:=[.base ⟨10,[0],[⟨.agg [.s,.s,.b,.s,.s,.s,.b,.s,.s,.s,.b,.s,.s,.s,.b,.s],[(0,1,1),(1,1,2),(2,2,3),(4,1,4),(5,1,5),(6,2,6),(8,1,7),(9,1,8),(10,2,9),(12,1,10),(13,1,11),(14,2,12)]⟩,⟨.agg [.s,.s,.s,.s,.b,.s,.s,.s,.s,.s,.b,.s,.s,.s,.s,.s,.b,.s,.s,.s,.s,.s,.b,.s],[(0,1,13),(1,1,14),(2,1,15),(3,1,16),(4,2,17),(6,1,18),(7,1,19),(8,1,20),(9,1,21),(10,2,22),(12,1,23),(13,1,24),(14,1,25),(15,1,26),(16,2,27),(18,1,28),(19,1,29),(20,1,30),(21,1,31),(22,2,32)]⟩],true⟩,.base ⟨19,[.parts cR [(2,1,15),(3,1,16),(4,2,17)],.parts cR [(2,1,20),(3,1,21),(4,2,22)],.parts cR [(2,1,25),(3,1,26),(4,2,27)]],[oS 33],false⟩,.base ⟨20,[.parts cS [(0,1,1),(1,1,2),(2,2,3)],.parts cS [(0,1,4),(1,1,5),(2,2,6)],.parts cS [(0,1,7),(1,1,8),(2,2,9)]],[oS 34],false⟩,.base ⟨11,[33,34],oT,false⟩,.base ⟨18,[],oT,false⟩]
def ub:List Out:=[oS 0]
theorem path {x y:Nat->Nat->Int}{nx ny:Nat->Nat}{d:Nat->Int}{X Y:Nat->List Int}{D:Nat->Int} (hl2:nl<=9223372036854775807) (hmx:∀i,i<min nl 4->mx i<=9223372036854775807∧my i<=9223372036854775807) (hz:∀i,i<min nl 4->(∀j,sg (ax i j) (Proofs.YtbjfgffibepmkaaGreat.val 4294967296 ((xx i j).take 1))=x i j)∧(∀j,sg (ay i j) (Proofs.YtbjfgffibepmkaaGreat.val 4294967296 ((xy i j).take 1))=y i j)∧sg (b0 i) (Proofs.YtbjfgffibepmkaaGreat.val 4294967296 ((x0 i).take 1))=d i) (hN:∀i,i<min nl 4->min (mx i) 3=nx i∧min (my i) 3=ny i) (h0:∀i,min nl 4<=i->nx i=0∧ny i=0∧d i=0) (hC:∀i,i<4->CuG (x i) (y i) (nx i) (ny i) (d i) (X i) (Y i) (D i) 3 1) (hb:∀i,i<4->(∀j,j<nx i->Bd (x i j).natAbs 1)∧(∀j,j<ny i->Bd (y i j).natAbs 1)∧Bd (d i).natAbs 1):aj (ph (tZ ax ay xx xy mx my b0 x0 x y nx ny d X Y D nl)) prog ⟨4,[0],oT,false⟩:=aQ ub oT ua func4 (by kernel_rfl) (lB (AT (ax:=ax) (ay:=ay) (xx:=xx) (xy:=xy) (mx:=mx) (my:=my) (b0:=b0) (x0:=x0) (x:=x) (y:=y) (nx:=nx) (ny:=ny) (d:=d) (X:=X) (Y:=Y) (D:=D) (nl:=nl) ad rfl rfl rfl rfl rfl rfl rfl rfl rfl rfl rfl rfl rfl rfl rfl rfl rfl rfl rfl rfl rfl rfl rfl rfl rfl rfl rfl rfl rfl rfl rfl rfl hl2 hmx hz hN h0 hC hb) (lB (ML (c:=3) (k:=1) ad ad ad ad ad ad ad ad ad rfl (hC 0 (by omega)).oX (hC 0 (by omega)).oY (hC 0 (by omega)).oD (hC 1 (by omega)).oX (hC 1 (by omega)).oY (hC 1 (by omega)).oD (hC 2 (by omega)).oX (hC 2 (by omega)).oY (hC 2 (by omega)).oD) (lB (Bc (c:=3) (k:=1) ad ad ad ad ad ad ad ad ad rfl (hC 0 (by omega)) (hC 1 (by omega)) (hC 2 (by omega))) (lB (qC (z:=(ae (aI 3 (orM (X 0) (Y 0) (X 1) (Y 1) (X 2) (Y 2) (D 0) (D 1) (D 2))))) (n:=(aI 3 (orM (X 0) (Y 0) (X 1) (Y 1) (X 2) (Y 2) (D 0) (D 1) (D 2))).length) (k:=2000) (kq:=2000) ad ad (Nat.le_trans (nH (c:=100) (k:=100) 3 _ (fun i j _ _=>ue (c:=3) (k:=1) (by omega) (by omega) (hC 0 (by omega)).oX (hC 0 (by omega)).oY (hC 0 (by omega)).oD (hC 1 (by omega)).oX (hC 1 (by omega)).oY (hC 1 (by omega)).oD (hC 2 (by omega)).oX (hC 2 (by omega)).oY (hC 2 (by omega)).oD i j)).len (by omega))) (lB (AV) aD)))))
  (aM [.fact 0 (.one (.s))] ⟨Rw.Is 5 (bj ax ay xx xy mx my b0 x0) nl,trivial⟩) aV
theorem walk {w:World}{v:Value} (hnl:nl<=9223372036854775807∧∀i,i<nl->mx i<=9223372036854775807∧my i<=9223372036854775807) (hl:Rw 5 (bj ax ay xx xy mx my b0 x0) nl w v):Calls prog 4 #[v] w (ud w true):=by
 obtain ⟨x,y,nx,ny,d,X,Y,D,hmx,hz,hN,h0,hC,hb⟩:=AW hnl hl
 exact AX (path hnl.1 hmx hz hN h0 hC hb) (vs:=[v]) ⟨AY hl,trivial⟩
theorem lifted (os:Os) (started:os.Started) (H:Type) (enc:TypeId×Value->H) :
  ReturnsInHanded {} checked os 4 .any (Rows.predThreesSpec.pre6 enc prog f4 Rows.predThreesRow.domain false) (Rows.predThreesSpec.post enc prog f4 false true false false):=by
 refine returnsInHanded_of_change (C:=checked) Tryz.own started (by kernel_rfl) func4
  (ChangeSpec.witness6 (enc:=enc) (C:=checked) false ⟨#[],#[.slice none 0 0],[]⟩ 8 (by kernel_rfl) (by kernel_rfl) (by kernel_rfl) (by kernel_rfl)) ?_
 intro W base args ds gs before hval0 hW _ _
 have hval:∀(j:Nat) t v,f4.params[j]?=some t->args[j]?=some v->Value.okWide prog W .any base t v:=hval0
 obtain ⟨p,q,hA0,hV,rfl,_,_⟩:=id hW
 have hA:DataW.TrodAll enc prog W 0 (fun _=>true) true f4.params.toList args.toList ds p:=hA0
 rw [params4] at hA hval
 obtain ⟨v0,MJ,d0,ds0,p0,q0,hargs,rfl,rfl,h0,r0⟩:=trodAll_cons hA
 obtain ⟨rfl,rfl,rfl⟩:=trodAll_nil r0
 obtain rfl:args = #[v0]:=by cases args;simp_all
 obtain ⟨n0,mx0,MK,ax0,ay0,xx0,xy0,bb0,xb0,l0,s0⟩:=Ba h0 (hval 0 22 v0 rfl rfl)
 refine (walk l0 s0).mono fun e W' ⟨he,hg⟩=>?_
 subst he
 refine ⟨_,rfl,Bb Tryz.laidOut rfl underlying4 ?_ ?_ hW hg⟩
 ·rw [params4];decide +kernel
 ·rw [params4]
  intro ds h
  match ds,h with
  | [_],_=>rfl
theorem holds:Rows.PredThreesSaid:=
 OpenClaim.holds_of_wide 4 f4 rfl rfl rfl rfl rfl rfl rfl ⟨rfl,rfl,rfl,rfl,rfl⟩ rfl rfl rfl rfl rfl (by kernel_rfl) func4 (by kernel_rfl)
  (of_decide_eq_true (by kernel_rfl)) (by unfold Func.isWrapper;first | (rw [if_pos (by decide +kernel)];kernel_rfl) | (rw [if_neg (by decide +kernel)];exact ⟨rfl,rfl⟩))
  (fun os started H enc _=>lifted os started H enc)
end Go.Proofs.YtbjfgffibepmkaaGreat.pthree
