/- The reference's predicat -/
import Derived.Test.YtbjfgffibepmkaaGreatDtP
import Derived.Test.YtbjfgffibepmkaaGreatCurR
set_option maxRecDepth 100000
namespace Go.Proofs.YtbjfgffibepmkaaGreat.Sym
open Go.RowKit
variable {X X' Y Y':List Int}{d d':Int}{c k p0 p1 q0 q1 r0 r1 x:Nat}{Φ:PH}
section
variable {p q r y z l K:Nat}{A B:List Int}
theorem vk (hp:∀w v,Φ p w v->Rw 4 (fun i w v=>af w v ((ae A i:Int):Rat) k) A.length w v) (hq:∀w v,Φ q w v->Rw 4 (fun i w v=>af w v ((ae B i:Int):Rat) l) B.length w v) (hx:Φ x=fun w v=>Rw 4 (fun i w v=>af w v ((ae (aP A (bK B)) i:Int):Rat) K) (aP A (bK B)).length w v) (hA:A.length<=1000) (hB:B.length<=1000) (hn:cG B) (hbB:∀i,Bd (ae B i).natAbs l) (hb:∀i,Bd (ae (aP A (bK B)) i).natAbs K) (hk:k<=8000:=by omega) (hl:l<=8000:=by omega) (hk1:1<=k:=by omega) (hl1:1<=l:=by omega) (hK:K<=8000:=by omega) (hK1:1<=K:=by omega) :
  aj Φ Tryz.prog ⟨51,[.fact p,.fact q],[oS x],false⟩:=by
 have hlen:(bK B).length=B.length:=dC _ _
 have ex:∀i,dX (fun i=>((ae A i:Int):Rat)) A.length (fun i=>((ae B i:Int):Rat)) B.length i=((ae A i+ae (bK B) i:Int):Rat):=fun i=>by
  have u:∀L:List Int,eR L.length (fun i=>((ae L i:Int):Rat)) i=((ae L i:Int):Rat):=fun L=>by
   unfold eR
   split
   ·rfl
   ·rw [eT];rfl
  rw [dX,u,u,qc,Rat.intCast_add,Rat.intCast_neg,Rat.sub_eq_add_neg]
 have hc:∀i,i<max A.length B.length->ae (aP A (bK B)) i=ae A i+ae (bK B) i:=fun i hi=>by rw [aP,fM,cM,hlen,if_pos hi]
 have hN:tl (fun i=>(dX (fun i=>((ae A i:Int):Rat)) A.length (fun i=>((ae B i:Int):Rat)) B.length i).num) (max A.length B.length)=(aP A (bK B)).length:=by
  rw [aP,eQ,hlen]
  congr 1
  funext i
  rw [ex];rfl
 refine aT (JC (Φ:=ph [fun w v=>Rw 4 (fun i w v=>af w v ((ae A i:Int):Rat) k) A.length w v,fun w v=>Rw 4 (fun i w v=>af w v ((ae B i:Int):Rat) l) B.length w v,fun w v=>Rw 4 (fun i w v=>af w v (dX (fun i=>((ae A i:Int):Rat)) A.length (fun i=>((ae B i:Int):Rat)) B.length i) K) (aP A (bK B)).length w v]) (p:=0) (y:=1) (x:=2) (q:=fun i=>((ae A i:Int):Rat)) (r:=fun i=>((ae B i:Int):Rat)) ad ad rfl (hk:=hk) (hl:=hl) (hk1:=hk1) (hl1:=hl1) (fun i _=>⟨hbB i,gF hl1⟩) (fun h=>hn h) (fun i hi=>?_) hN) ⟨hp,hq,trivial⟩ ⟨⟨rfl,⟨rfl,rfl,fun w v h=>?_⟩,trivial⟩,trivial⟩
 ·rw [ex,<- hc i hi]
  exact ⟨hb i,gF hK1⟩
 ·rw [hx]
  exact Rw.to (sz:=4) (n:=(aP A (bK B)).length) (F:=fun i w v=>af w v (dX (fun i=>((ae A i:Int):Rat)) A.length (fun i=>((ae B i:Int):Rat)) B.length i) K) h fun i w v hi h=>h.eq (by rw [ex,hc i (Nat.lt_of_lt_of_le hi (by have:=tq A (bK B);rw [hlen] at this;exact this))])
theorem DJ {L:List Int} (h:cG L):an (mk L.length (ae L))=L:=nJ (gX _) h fun i=>by
 rw [fM,cM]
 split
 ·rfl
 ·rw [eT]
end
abbrev cR:bW:=.agg [.s,.s,.s,.s,.b,.s]
def Ux (X Y:List Int) (d:Int) (k:Nat):List WP:=[Rw 2 (Nf (ae X) k) X.length,Rw 2 (Nf (ae Y) k) Y.length,Nw d k,fun w v=>ai w v d k,fun w v=>ai w v (1:Int) 2,Dw ((d:Int):Rat) (k+2+2),fun w v=>ai w v (((d:Int):Rat).num) (k+2+2),fun w v=>ai w v (((d:Int):Rat).den:Int) (k+2+2),Rw 4 (Df (uM ((d:Int):Rat) 0) (k+2+2)) 1,fun w v=>Rw 4 (fun ι w v=>af w v ((((ae X) ι:Int):Rat)) (k+2+2)) X.length w v,fun w v=>Rw 4 (fun ι w v=>af w v ((((ae Y) ι:Int):Rat)) (k+2+2)) Y.length w v]
def Uy:List Step:=[.base ⟨37,[2],[oD 3],false⟩,.base ⟨34,[.lit (.ci .i64 1)],[oD 4],false⟩,.base ⟨69,[3,4],[⟨.agg [.s,.b,.s,.b],[(0,0,5),(0,2,6),(2,2,7)]⟩],false⟩,.base ⟨0,[.any,5],[oS 8],.fresh [] (cu 32 1)⟩,.base ⟨33,[0],[oS 9],false⟩,.base ⟨33,[1],[oS 10],false⟩]
def Uz:List Out:=[⟨.agg [.s,.s,.s,.s,.b,.s],[(2,1,0),(3,1,1),(4,2,2)]⟩]
theorem UA  (hk:k<=20) (hc:c<=20) (hX:EOk c k X) (hY:EOk c k Y):aj (ph (Ux X Y d k)) Tryz.prog ⟨50,[.parts (.agg [.s,.s,.s,.s,.b,.s]) [(2,1,0),(3,1,1),(4,2,2)]],[oS 9,oS 10,oS 8],true⟩:=by
 have hlX:=hX.len;have hlY:=hY.len
 exact aQ Uz [oS 9,oS 10,oS 8] Uy Tryz.func50 (by kernel_rfl) (lB (qY nI rfl rfl) (lB (jG (z:=1) rfl rfl) (lB (jH dD dD rfl rfl rfl (lW _)) (lB (Pt ad rfl) (lB (mA (z:=(ae X)) (n:=X.length) (L:=X) (Rw.To 2 (Nf (ae X) k) X.length (fun _ _ _ _ h=>ak.i h)) rfl (DJ hX.nrm)) (lB (mA (z:=(ae Y)) (n:=Y.length) (L:=Y) (Rw.To 2 (Nf (ae Y) k) Y.length (fun _ _ _ _ h=>ak.i h)) rfl (DJ hY.nrm)) aD))))))
  (aM [.parts (.agg [.s,.s,.s,.s,.b,.s]) [(2,1,0),(3,1,1),(4,2,2)]] ⟨trivial,trivial⟩) aV
theorem fR {y z:Nat} (hp0:∀w v,Φ p0 w v->Rw 2 (Nf (ae X) k) X.length w v) (hq0:∀w v,Φ q0 w v->Rw 2 (Nf (ae Y) k) Y.length w v) (hr0:∀w v,Φ r0 w v->ak w v d k) (hx:Φ x=fun w v=>Rw 4 (fun i w v=>af w v ((ae X i:Int):Rat) 100) X.length w v) (hy:Φ y=fun w v=>Rw 4 (fun i w v=>af w v ((ae Y i:Int):Rat) 100) Y.length w v) (hz:Φ z=fun w v=>Rw 4 (fun i w v=>af w v ((ae [d] i:Int):Rat) 100) 1 w v) (hk:k<=20) (hc:c<=20) (hX:EOk c k X) (hY:EOk c k Y):aj Φ Tryz.prog ⟨50,[.parts cR [(2,1,p0),(3,1,q0),(4,2,r0)]],[oS x,oS y,oS z],true⟩:=
 aT (UA (X:=X) (Y:=Y) (d:=d) hk hc hX hY) ⟨⟨rfl,⟨rfl,rfl,hp0⟩,⟨rfl,rfl,hq0⟩,⟨rfl,rfl,hr0⟩,trivial⟩,trivial⟩ ⟨⟨rfl,⟨rfl,rfl,fun w v h=>by
  rw [hx]
  exact Rw.to (sz:=4) (n:=X.length) (F:=fun i w v=>af w v ((ae X i:Int):Rat) (k+2+2)) h fun _ _ _ _ h=>h.more (by omega)⟩,trivial⟩,⟨rfl,⟨rfl,rfl,fun w v h=>by
  rw [hy]
  exact Rw.to (sz:=4) (n:=Y.length) (F:=fun i w v=>af w v ((ae Y i:Int):Rat) (k+2+2)) h fun _ _ _ _ h=>h.more (by omega)⟩,trivial⟩,⟨rfl,⟨rfl,rfl,fun w v h=>by
  rw [hz]
  exact Rw.to (sz:=4) (n:=1) (F:=Df (uM ((d:Int):Rat) 0) (k+2+2)) h fun i _ _ hi h=>by
   obtain rfl:i=0:=by omega
   exact af.more (af.eq h rfl) (by omega)⟩,trivial⟩,trivial⟩
def crL (P Q:List Int) (d d':Int):List Int:=aP (ah Q [d]) (bK (ah P [d']))
theorem dJ {P Q:List Int} (hP:EOk c k P) (hQ:EOk c k Q) (hd:EOk 1 k [d]) (hd':EOk 1 k [d']):EOk (c+1) (k+k+c+1) (crL P Q d d'):=(hQ.mul hd).add (hP.mul hd').neg
def UB (X Y X' Y':List Int) (d d':Int) (k:Nat):List WP:=[Rw 2 (Nf (ae X) k) X.length,Rw 2 (Nf (ae Y) k) Y.length,Nw d k,Rw 2 (Nf (ae X') k) X'.length,Rw 2 (Nf (ae Y') k) Y'.length,Nw d' k,fun w v=>Rw 4 (fun ι w v=>af w v ((((ae X) ι:Int):Rat)) 100) X.length w v,fun w v=>Rw 4 (fun ι w v=>af w v ((((ae Y) ι:Int):Rat)) 100) Y.length w v,fun w v=>Rw 4 (fun ι w v=>af w v ((((ae ([d])) ι:Int):Rat)) 100) 1 w v,fun w v=>Rw 4 (fun ι w v=>af w v ((((ae X') ι:Int):Rat)) 100) X'.length w v,fun w v=>Rw 4 (fun ι w v=>af w v ((((ae Y') ι:Int):Rat)) 100) Y'.length w v,fun w v=>Rw 4 (fun ι w v=>af w v ((((ae ([d'])) ι:Int):Rat)) 100) 1 w v,fun w v=>Rw 4 (fun ι w v=>af w v ((((ae (ah X' [d])) ι:Int):Rat)) 2000) ((ah X' [d]).length) w v,fun w v=>Rw 4 (fun ι w v=>af w v ((((ae (ah X [d'])) ι:Int):Rat)) 2000) ((ah X [d']).length) w v,fun w v=>Rw 4 (fun ι w v=>af w v ((((ae (aP (ah X' [d]) (bK (ah X [d'])))) ι:Int):Rat)) 2000) ((aP (ah X' [d]) (bK (ah X [d']))).length) w v]
def UC:List Step:=[.base ⟨50,[.parts cR [(2,1,0),(3,1,1),(4,2,2)]],[oS 6,oS 7,oS 8],true⟩,.base ⟨50,[.parts cR [(2,1,3),(3,1,4),(4,2,5)]],[oS 9,oS 10,oS 11],true⟩,.base ⟨52,[9,8],[oS 12],false⟩,.base ⟨52,[6,11],[oS 13],false⟩,.base ⟨51,[12,13],[oS 14],false⟩]
def UD:List Out:=[⟨.agg [.s,.s,.s,.s,.b,.s],[(2,1,0),(3,1,1),(4,2,2)]⟩,⟨.agg [.s,.s,.s,.s,.b,.s],[(2,1,3),(3,1,4),(4,2,5)]⟩]
theorem UE  (hk:k<=20) (hc:c<=20) (hX:EOk c k X) (hY:EOk c k Y) (hd:EOk 1 k [d]) (hX':EOk c k X') (hY':EOk c k Y') (hd':EOk 1 k [d']):aj (ph (UB X Y X' Y' d d' k)) Tryz.prog ⟨12,[.parts (.agg [.s,.s,.s,.s,.b,.s]) [(2,1,0),(3,1,1),(4,2,2)],.parts (.agg [.s,.s,.s,.s,.b,.s]) [(2,1,3),(3,1,4),(4,2,5)]],[oS 14],false⟩:=aQ UD [oS 14] UC Tryz.func12 (by kernel_rfl) (lB (fR (X:=X) (Y:=Y) (d:=d) (c:=c) (k:=k) ad ad ad rfl rfl rfl hk hc hX hY) (lB (fR (X:=X') (Y:=Y') (d:=d') (c:=c) (k:=k) ad ad ad rfl rfl rfl hk hc hX' hY') (lB (cH (A:=X') (B:=[d]) (k:=100) (l:=100) (K:=2000) ad ad rfl hX' hd) (lB (cH (A:=X) (B:=[d']) (k:=100) (l:=100) (K:=2000) ad ad rfl hX hd') (lB (vk (A:=(ah X' [d])) (B:=(ah X [d'])) (k:=2000) (l:=2000) (K:=2000) ad ad rfl (by have:=(hX'.mul hd).len;omega) (by have:=(hX.mul hd').len;omega) (hX.mul hd').nrm (fun i=>((hX.mul hd').bd i).more (by omega)) (fun i=>(((hX'.mul hd).add (hX.mul hd').neg).bd i).more (by omega))) aD)))))
  (aM [.parts (.agg [.s,.s,.s,.s,.b,.s]) [(2,1,0),(3,1,1),(4,2,2)],.parts (.agg [.s,.s,.s,.s,.b,.s]) [(2,1,3),(3,1,4),(4,2,5)]] ⟨trivial,trivial,trivial⟩) aV
def UF (X Y X' Y':List Int) (d d':Int) (k:Nat):List WP:=[Rw 2 (Nf (ae X) k) X.length,Rw 2 (Nf (ae Y) k) Y.length,Nw d k,Rw 2 (Nf (ae X') k) X'.length,Rw 2 (Nf (ae Y') k) Y'.length,Nw d' k,fun w v=>Rw 4 (fun ι w v=>af w v ((((ae X) ι:Int):Rat)) 100) X.length w v,fun w v=>Rw 4 (fun ι w v=>af w v ((((ae Y) ι:Int):Rat)) 100) Y.length w v,fun w v=>Rw 4 (fun ι w v=>af w v ((((ae ([d])) ι:Int):Rat)) 100) 1 w v,fun w v=>Rw 4 (fun ι w v=>af w v ((((ae X') ι:Int):Rat)) 100) X'.length w v,fun w v=>Rw 4 (fun ι w v=>af w v ((((ae Y') ι:Int):Rat)) 100) Y'.length w v,fun w v=>Rw 4 (fun ι w v=>af w v ((((ae ([d'])) ι:Int):Rat)) 100) 1 w v,fun w v=>Rw 4 (fun ι w v=>af w v ((((ae (ah Y' [d])) ι:Int):Rat)) 2000) ((ah Y' [d]).length) w v,fun w v=>Rw 4 (fun ι w v=>af w v ((((ae (ah Y [d'])) ι:Int):Rat)) 2000) ((ah Y [d']).length) w v,fun w v=>Rw 4 (fun ι w v=>af w v ((((ae (aP (ah Y' [d]) (bK (ah Y [d'])))) ι:Int):Rat)) 2000) ((aP (ah Y' [d]) (bK (ah Y [d']))).length) w v]
def UG:List Step:=[.base ⟨50,[.parts cR [(2,1,0),(3,1,1),(4,2,2)]],[oS 6,oS 7,oS 8],true⟩,.base ⟨50,[.parts cR [(2,1,3),(3,1,4),(4,2,5)]],[oS 9,oS 10,oS 11],true⟩,.base ⟨52,[10,8],[oS 12],false⟩,.base ⟨52,[7,11],[oS 13],false⟩,.base ⟨51,[12,13],[oS 14],false⟩]
def UH:List Out:=[⟨.agg [.s,.s,.s,.s,.b,.s],[(2,1,0),(3,1,1),(4,2,2)]⟩,⟨.agg [.s,.s,.s,.s,.b,.s],[(2,1,3),(3,1,4),(4,2,5)]⟩]
theorem UI  (hk:k<=20) (hc:c<=20) (hX:EOk c k X) (hY:EOk c k Y) (hd:EOk 1 k [d]) (hX':EOk c k X') (hY':EOk c k Y') (hd':EOk 1 k [d']):aj (ph (UF X Y X' Y' d d' k)) Tryz.prog ⟨14,[.parts (.agg [.s,.s,.s,.s,.b,.s]) [(2,1,0),(3,1,1),(4,2,2)],.parts (.agg [.s,.s,.s,.s,.b,.s]) [(2,1,3),(3,1,4),(4,2,5)]],[oS 14],false⟩:=aQ UH [oS 14] UG Tryz.func14 (by kernel_rfl) (lB (fR (X:=X) (Y:=Y) (d:=d) (c:=c) (k:=k) ad ad ad rfl rfl rfl hk hc hX hY) (lB (fR (X:=X') (Y:=Y') (d:=d') (c:=c) (k:=k) ad ad ad rfl rfl rfl hk hc hX' hY') (lB (cH (A:=Y') (B:=[d]) (k:=100) (l:=100) (K:=2000) ad ad rfl hY' hd) (lB (cH (A:=Y) (B:=[d']) (k:=100) (l:=100) (K:=2000) ad ad rfl hY hd') (lB (vk (A:=(ah Y' [d])) (B:=(ah Y [d'])) (k:=2000) (l:=2000) (K:=2000) ad ad rfl (by have:=(hY'.mul hd).len;omega) (by have:=(hY.mul hd').len;omega) (hY.mul hd').nrm (fun i=>((hY.mul hd').bd i).more (by omega)) (fun i=>(((hY'.mul hd).add (hY.mul hd').neg).bd i).more (by omega))) aD)))))
  (aM [.parts (.agg [.s,.s,.s,.s,.b,.s]) [(2,1,0),(3,1,1),(4,2,2)],.parts (.agg [.s,.s,.s,.s,.b,.s]) [(2,1,3),(3,1,4),(4,2,5)]] ⟨trivial,trivial,trivial⟩) aV
theorem UJ  (hp0:∀w v,Φ p0 w v->Rw 2 (Nf (ae X) k) X.length w v) (hq0:∀w v,Φ q0 w v->Rw 2 (Nf (ae Y) k) Y.length w v) (hr0:∀w v,Φ r0 w v->ak w v d k) (hp1:∀w v,Φ p1 w v->Rw 2 (Nf (ae X') k) X'.length w v) (hq1:∀w v,Φ q1 w v->Rw 2 (Nf (ae Y') k) Y'.length w v) (hr1:∀w v,Φ r1 w v->ak w v d' k) (hx:Φ x=fun w v=>Rw 4 (fun i w v=>af w v ((ae (crL X X' d d') i:Int):Rat) 2000) (crL X X' d d').length w v) (hX:EOk c k X) (hY:EOk c k Y) (hd:EOk 1 k [d]) (hX':EOk c k X') (hY':EOk c k Y') (hd':EOk 1 k [d']) (hk:k<=20:=by omega) (hc:c<=20:=by omega):aj Φ Tryz.prog ⟨12,[.parts cR [(2,1,p0),(3,1,q0),(4,2,r0)],.parts cR [(2,1,p1),(3,1,q1),(4,2,r1)]],[oS x],false⟩:=
 aT (UE (X:=X) (Y:=Y) (d:=d) (X':=X') (Y':=Y') (d':=d') hk hc hX hY hd hX' hY' hd') ⟨⟨rfl,⟨rfl,rfl,hp0⟩,⟨rfl,rfl,hq0⟩,⟨rfl,rfl,hr0⟩,trivial⟩,⟨rfl,⟨rfl,rfl,hp1⟩,⟨rfl,rfl,hq1⟩,⟨rfl,rfl,hr1⟩,trivial⟩,trivial⟩ ⟨⟨rfl,⟨rfl,rfl,fun _ _ h=>hx▸h⟩,trivial⟩,trivial⟩
theorem UK  (hp0:∀w v,Φ p0 w v->Rw 2 (Nf (ae X) k) X.length w v) (hq0:∀w v,Φ q0 w v->Rw 2 (Nf (ae Y) k) Y.length w v) (hr0:∀w v,Φ r0 w v->ak w v d k) (hp1:∀w v,Φ p1 w v->Rw 2 (Nf (ae X') k) X'.length w v) (hq1:∀w v,Φ q1 w v->Rw 2 (Nf (ae Y') k) Y'.length w v) (hr1:∀w v,Φ r1 w v->ak w v d' k) (hx:Φ x=fun w v=>Rw 4 (fun i w v=>af w v ((ae (crL Y Y' d d') i:Int):Rat) 2000) (crL Y Y' d d').length w v) (hX:EOk c k X) (hY:EOk c k Y) (hd:EOk 1 k [d]) (hX':EOk c k X') (hY':EOk c k Y') (hd':EOk 1 k [d']) (hk:k<=20:=by omega) (hc:c<=20:=by omega):aj Φ Tryz.prog ⟨14,[.parts cR [(2,1,p0),(3,1,q0),(4,2,r0)],.parts cR [(2,1,p1),(3,1,q1),(4,2,r1)]],[oS x],false⟩:=
 aT (UI (X:=X) (Y:=Y) (d:=d) (X':=X') (Y':=Y') (d':=d') hk hc hX hY hd hX' hY' hd') ⟨⟨rfl,⟨rfl,rfl,hp0⟩,⟨rfl,rfl,hq0⟩,⟨rfl,rfl,hr0⟩,trivial⟩,⟨rfl,⟨rfl,rfl,hp1⟩,⟨rfl,rfl,hq1⟩,⟨rfl,rfl,hr1⟩,trivial⟩,trivial⟩ ⟨⟨rfl,⟨rfl,rfl,fun _ _ h=>hx▸h⟩,trivial⟩,trivial⟩
end Go.Proofs.YtbjfgffibepmkaaGreat.Sym
