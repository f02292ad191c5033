/- slices.Grow of nothing -/
import Derived.Test.YtbjfgffibepmkaaGreatDivT
import Derived.Test.YtbjfgffibepmkaaGreatPolL
set_option maxRecDepth 100000
namespace Go.Proofs.YtbjfgffibepmkaaGreat.Sym
open Go.Proofs.Tryz
open Go.RowKit
variable {T e:TypeId}{n sz:Nat}{F:PH}
def lO (sz:Nat) (e:TypeId) (w:World) (v:Value):Prop:=∃g n cap cur,v = .slice (some ⟨g,0,none⟩) n cap∧w.heap[g]?=some (.cells cur e (0,0))∧cap<=maxLen∧cur.size=cap*sz∧∀x,x ∈ cur.toList->cL x
def gT (T:TypeId):Op->Option (List Operand)
 | .call ⟨.builtin .cap,args,ts⟩=>if ts = #[T] then some args.toList else none
 | _=>none
section
variable {P:Program}{Φ:PH}{p x j:Nat}
theorem jd  (hT:P.underlying T=some (.slice e)):aj Φ P ⟨0,[.lit .nl],[oL (.ci .i64 0)],.quiet (gT T)⟩:=fun X w ac o xs _ hm ha=>by
 unfold gT at hm
 split at hm
 case h_2=>cases hm
 rename_i args ts ho
 split at hm
 case isFalse=>cases hm
 rename_i hts
 subst hts
 simp only [Option.some.injEq] at hm
 subst hm
 match hl:args.toList,ha with
 | [y],ha=>
  have hv:ac.eval y = .slice none 0 0:=ha.1
  have hargs:args = #[y]:=by apply Array.ext';simpa using hl
  subst hargs
  refine ⟨.int .i64 0,w,?_,bt w none,⟨⟨⟨rfl,fun _ h=>by cases h⟩,fun r hr=>by cases hr⟩,trivial⟩⟩
  unfold execOp
  simp [ho,resolve,invoke,builtin,Builtin.cap_,run_underlying hT,hv,goInt]
theorem je  (hT:P.underlying T=some (.slice e)):aj Φ P ⟨0,[.lit .nl],[oL (.ci .i64 0)],.quiet (aK T)⟩:=fun X w ac o xs _ hm ha=>by
 unfold aK at hm
 split at hm
 case h_2=>cases hm
 rename_i args ts ho
 split at hm
 case isFalse=>cases hm
 rename_i hts
 subst hts
 simp only [Option.some.injEq] at hm
 subst hm
 match hl:args.toList,ha with
 | [y],ha=>
  have hv:ac.eval y = .slice none 0 0:=ha.1
  have hargs:args = #[y]:=by apply Array.ext';simpa using hl
  subst hargs
  refine ⟨.int .i64 0,w,?_,bt w none,⟨⟨⟨rfl,fun _ h=>by cases h⟩,fun r hr=>by cases hr⟩,trivial⟩⟩
  unfold execOp
  simp [ho,resolve,invoke,builtin,Builtin.len_,run_underlying hT,hv,goInt]
theorem xd {o:Op}{xs:List Operand} (h:er T o=some xs):∃y z,o = .slice T y none (some z) none∧xs = [y,z]:=by
 unfold er at h
 split at h
 case h_2=>cases h
 rename_i t y z
 split at h
 case isFalse=>cases h
 rename_i ht
 subst ht
 simp only [Option.some.injEq] at h
 exact ⟨y,z,rfl,h.symm⟩
theorem sn  (hT:P.underlying T=some (.slice e)) (hz:dg P e=some sz:=by kernel_rfl):aj Φ P ⟨0,[.lit .nl,.lit (.ci .i64 0)],[⟨.one (.lit .nl),[]⟩],.quiet (er T)⟩:=fun X w ac o xs _ hm ha=>by
 obtain ⟨y,z,ho,rfl⟩:=xd hm
 have hv:ac.eval y = .slice none 0 0:=ha.1
 have hi2:ac.eval z = .int .i64 0:=ha.2.1
 refine ⟨.slice none 0 0,w,?_,bt w none,⟨⟨⟨rfl,fun _ h=>by cases h⟩,fun r hr=>by cases hr⟩,trivial⟩⟩
 unfold execOp
 simp only [ho,Option.map_none,Option.map_some,hv,hi2]
 simp [Instr.sliceAt,Instr.slice,run_underlying hT,Instr.sliceBounds,run_sliceBound (P:=P) w .i64 (0:Int) 0 .sliceAcap (by omega) (by omega),run_sizeOf hz]
theorem sq  (hT:P.underlying T=some (.slice e)) (hp:∀w v,Φ p w v->lO sz e w v) (hx:Φ x=aC sz e F 0) (hz:dg P e=some sz:=by kernel_rfl):aj Φ P ⟨0,[.fact p,.lit (.ci .i64 0)],[oS x],.loose [] j 0 (er T)⟩:=fun X L w ac o xs hX hL hLX hm ha hb _=>by
 obtain ⟨y,z,ho,rfl⟩:=xd hm
 obtain ⟨g,n,cap,cur,hv,hh,hc,hs,hn⟩:=hp _ _ (ha.1 w (Off.refl _ _))
 have hi2:ac.eval z = .int .i64 0:=ha.2.1
 have hLg:L g:=hb y g rfl (by rw [hv];rfl)
 refine ⟨.slice (some ⟨g,0,none⟩) 0 cap,w,none,?_,bt w none,(fun _ h=>by cases h),Kp.refl _,(fun m k v _ h4 h5=>⟨h4,h5⟩),fun m hm'=>?_,cP ⟨⟨_,_,_,rfl⟩,fun _ h=>by cases h⟩ hx fun w1 hw=>?_⟩
 ·unfold execOp
  have ha0:((some (⟨g,0,none⟩:Addr)).map fun y=>y.add 0)=some ⟨g,0,none⟩:=by simp [Addr.add_zero']
  simp only [ho,Option.map_none,Option.map_some,hv,hi2]
  simp [Instr.sliceAt,Instr.slice,run_underlying hT,Instr.sliceBounds,run_sliceBound (P:=P) w .i64 (0:Int) cap .sliceAcap (by omega) (by omega),run_sizeOf hz,Addr.add_zero']
 ·simp only [blk,Option.some.injEq] at hm'
  subst hm'
  exact ⟨hL g hLg,.inl hLg⟩
 ·have hw1:w1.heap[g]?=some (.cells cur e (0,0)):=by
   rw [hw.2 g (hL g hLg) (hLX g hLg)];exact hh
  refine ⟨[],rfl,(fun _ h=>by cases h),⟨⟨by simp,.inr ⟨g,cap,cur,rfl,Nat.zero_le _,hw1,Nat.zero_le _,hc,hs,by simp⟩⟩,fun g' cur' e' p' hg' hh' u hu=>?_⟩,fun i r h=>by simp at h⟩
  simp only [Value.ownBlock,Option.some.injEq] at hg'
  subst hg'
  rw [hw1] at hh'
  cases hh'
  exact hn u hu
end
section
variable {Φ:PH}{p q x m k j:Nat}{J:List Nat}
theorem Gd (hq:∀w v,Φ q w v->v = .int .i64 (n:Int)) (hx:Φ x=lO 2 27) (h0:0<n:=by omega) (hn:n<=1000000:=by omega):aj Φ prog ⟨0,[.lit .nl,.fact q],[oS x],.loose [] j 0 (bO 24 3)⟩:=fun X L w ac o ys hX hL hLX hm ha hb _=>by
 obtain ⟨y,u,hys⟩:∃y u,ys.map ac.eval = [y,u]:=by
  match ys.map ac.eval,ha with
  | [y,u],_=>exact ⟨y,u,rfl⟩
 rw [show List.map ac.eval ys = [y,u] from hys] at ha
 obtain ⟨a,b,ho,rfl,ea,eb⟩:=lN hm hys
 have hy:y = .slice none 0 0:=ha.1
 have hu:=hq _ _ (ha.2.1 w (Off.refl _ _))
 obtain ⟨i0,hi,hz0,hz1,hz2⟩:=info_parts infoI
 have hcm:grownCap w (0+n) 0 27<=maxLen:=grownCap_le_maxLen w (0+n) 0 27 (by simp only [maxLen];omega)
 have hge:=grownCap_ge w (0+n) 0 27
 have hr:=Lib.run_append_grow_zeros (P:=prog) w 24 3 o.type 27 i0 _ .i64 .i64 underlying24 underlying3 hi hz0 none 0 0 [] (by simp [Builtin.firstCells]) n h0 (by rw [hz1];omega) (by omega) (by omega) (by rw [hz2];omega) (growslice_fits (by omega) (by rw [hz2];omega))
 have hrun:=jC (o:=o) (P:=prog) ho (by rw [ea,hy]) (by rw [eb,hu]) hr
 have hgr:∀b,w.grownBy (w.drew.alloc b) none:=fun b=>⟨rfl,rfl,rfl,(World.grownBy_alloc w.drew b none).size,(World.grownBy_alloc w.drew b none).block⟩
 refine ⟨_,_,none,hrun,hgr _,(fun _ h=>by cases h),Kp.of (hgr _),(fun m q v _ h4 h5=>⟨cell_grown (hgr _) h4,gz (hgr _) h4 h5⟩),fun m hm'=>?_,cP ⟨⟨_,_,_,rfl⟩,fun _ h=>by cases h⟩ hx fun w1 hw=>?_⟩
 ·simp only [blk,Option.some.injEq] at hm'
  subst hm'
  exact ⟨by simp,.inr (Nat.le_refl _)⟩
 ·refine ⟨w.heap.size,_,_,_,rfl,(hw.2 w.heap.size (by simp) (fun h=>by have:=hX _ h;omega)).trans (heap_alloc_new w.drew _),hcm,?_,fun u hu=>?_⟩
  ·simp only [Array.size_append,List.size_toArray,List.length_nil,size_zeroCells,Nat.zero_add] at hge ⊢
   rw [show (Value.agg #[.bool false,.slice none 0 0]).cells.size=2 from rfl]
   omega
  ·simp only [Array.toList_append,List.mem_append] at hu
   rcases hu with (hu | hu) | hu
   ·simp at hu
   ·exact jB nc (by decide) _ u hu
   ·exact jB nc (by decide) _ u hu
end
def Gf (n:Nat):List WP:=[Nz n,Nz n,lO 2 27,aC 2 27 (If (fun _=>0) 0) 0]
def Gg:List Step:=[bQ [0,.lit (.ci .i64 0)] oF (au .lss),bQ [.lit .nl] [oL (.ci .i64 0)] (gT 24),bQ [.lit .nl] [oL (.ci .i64 0)] (aK 24),bQ [0,.lit (.ci .i64 0)] [oN 1] (au .sub),bQ [1,.lit (.ci .i64 0)] oT (au .gtr),bQ [.lit .nl] [oL (.ci .i64 0)] (gT 24),bQ [.lit .nl,.lit (.ci .i64 0)] [⟨.one (.lit (.nl)),[]⟩] (er 24),.base ⟨0,[.lit .nl,1],[oS 2],.loose [] 1 0 (bO 24 3)⟩,bQ [.lit .nl] [oL (.ci .i64 0)] (aK 24),.base ⟨0,[2,.lit (.ci .i64 0)],[oS 3],.loose [] 1 0 (er 24)⟩]
def Gh:List Out:=[⟨.one (.lit (.nl)),[]⟩,oN 0]
theorem Gi  (hn:n<=1000000) (h0:0<n):eY (ph (Gf n)) prog ⟨158,[.lit (.nl),0],[oS 3],false⟩:=jf Gh [oS 3] Gg func158 (by kernel_rfl) (lB (cB (op:=.lss) ad (cj (show decide (((n:Nat):Int)<0)=false from decide_eq_false (by omega)) (by simp))) (lB (jd underlying24) (lB (je underlying24) (lB (eg ad rfl) (lB (gB ad) (lB (jd underlying24) (lB (sn (sz:=2) underlying24) (lB (Gd ad rfl) (lB (je underlying24) (lB (sq (F:=(If (fun _=>0) 0)) underlying24 ad rfl) aD))))))))))
  (aM [.lit (.nl),.fact 0 (.one (.i))] ⟨(fun _ h=>by cases h),fun _ _ h=>h▸dc _,trivial⟩) (fun _ _ _ h=>h)
def Gj (n:Nat):List WP:=[Nz n,Nz n]
def Gk:List Step:=[bQ [0,.lit (.ci .i64 0)] oF (au .lss),bQ [.lit .nl] [oL (.ci .i64 0)] (gT 24),bQ [.lit .nl] [oL (.ci .i64 0)] (aK 24),bQ [0,.lit (.ci .i64 0)] [oN 1] (au .sub),bQ [1,.lit (.ci .i64 0)] oF (au .gtr)]
def Gl:List Out:=[⟨.one (.lit (.nl)),[]⟩,oN 0]
theorem Gm  (h0:n=0):aj (ph (Gj n)) prog ⟨158,[.lit (.nl),0],[⟨.one (.lit (.nl)),[]⟩],false⟩:=aQ Gl [⟨.one (.lit (.nl)),[]⟩] Gk func158 (by kernel_rfl) (lB (cB (op:=.lss) ad (cj (show decide (((n:Nat):Int)<0)=false from decide_eq_false (by omega)) (by simp))) (lB (jd underlying24) (lB (je underlying24) (lB (eg ad rfl) (lB (kD ad) aD)))))
  (aM [.lit (.nl),.fact 0 (.one (.i))] ⟨(fun _ h=>by cases h),fun _ _ h=>h▸dc _,trivial⟩) (fun _ _ _ h=>h)
def aU (zz:Nat->Nat->Int) (ln:Nat->Nat):Nat->List Int
 | 0=>[]
 | j+1=>aU zz ln j ++ mk (ln j) (zz j)
theorem pF (zz:Nat->Nat->Int) (ln:Nat->Nat) (j:Nat):(aU zz ln (j+1)).length=(aU zz ln j).length+ln j:=by
 rw [aU,List.length_append,dC]
theorem pG (A B:List Int) (i:Nat):ae (A ++ B) i=if i<A.length then ae A i else ae B (i-A.length):=by
 unfold ae
 simp only [List.getD_eq_getElem?_getD,List.getElem?_append]
 split <;> rfl
theorem dE {w:World}{v:Value} (h:Rw sz F n w v):∃p n c,v = .slice p n c:=by
 obtain ⟨p,c,rfl,_⟩:=h;exact ⟨_,_,_,rfl⟩
section
variable {Φ:PH}{p q x m k j i:Nat}{J:List Nat}{zz:Nat->Nat->Int}{ln:Nat->Nat}
theorem Gn (hq:∀w v,Φ q w v->v = .int .i64 (n:Int)) (hx:Φ x=aC 2 27 F 0) (hn:n<=1000000:=by omega):aj Φ prog ⟨158,[.lit .nl,.fact q],[oS x],.eN J j⟩:=by
 rcases Nat.eq_zero_or_pos n with h | h
 ·intro X w vs hX ha
  refine (aT (outs:=[⟨.one (.lit .nl),[]⟩]) (Φ:=Φ) (ar:=[.lit .nl,.fact q]) (Gm (n:=n) h) ⟨rfl,hq,trivial⟩ ⟨⟨rfl,trivial⟩,trivial⟩ X w vs hX ha).mono fun e w' ⟨hg,us,he,h2⟩=>?_
  match us,h2 with
  | [u],h2=>
   have e':u = .slice none 0 0:=h2.1.1.1
   subst e'
   exact ⟨hg,_,he,cP ⟨⟨_,_,_,rfl⟩,fun _ h=>by cases h⟩ hx fun w1 _=>aC.nil _ _ _ _,fun g hg'=>by cases hg'⟩
 ·exact jD (Gi (n:=n) hn h) ⟨rfl,hq,trivial⟩ ⟨⟨rfl,⟨rfl,rfl,fun _ _ h=>by
   rw [hx]
   exact aC.to (sz:=2) (e:=27) (n:=0) (F:=If (fun _=>0) 0) h fun i w v hi=>absurd hi (by omega)⟩,trivial⟩,trivial⟩
theorem Gp (hn:(aU zz ln (i+1)).length<=1000000) (hp:∀w v,Φ p w v->aC 2 27 (If (ae (aU zz ln i)) k) (aU zz ln i).length w v) (hq:∀w v,Φ q w v->Rw 2 (If (zz i) k) (ln i) w v) (hx:Φ x=fun w v=>aC 2 27 (fun ι w v=>aF w v (ae (aU zz ln (i+1)) ι) k) (aU zz ln (i+1)).length w v):aj Φ prog ⟨0,[.fact p,.fact q],[oS x],.loose [] j 0 (bO 24 24)⟩:=by
 obtain ⟨i0,hi,hz0,hz1,hz2⟩:=info_parts infoI
 refine sm (F':=fun ι w v=>aF w v (ae (aU zz ln (i+1)) ι) k) underlying24 hi hz0 hz1 hz2 rfl nc (fun _ _ _ _ g h=>aF.kp h g) hp hq (fun ι w v hι h=>?_) (fun ι w v hι h=>?_) (fun ι w l h=>aF.eO h) (by rw [<- pF];exact hn) (by rw [hx,pF])
 ·rw [aU,pG,if_pos hι];exact h
 ·rw [aU,pG,if_neg (by omega),Nat.add_sub_cancel_left,cM,if_pos hι];exact h
end
def nd (zz:Nat->Nat->Int) (ln:Nat->Nat) (n k:Nat):List WP:=[Rw 1 (gU zz ln k) n,Nz n,Ni (((aU zz ln n).length:Nat):Int),aC 2 27 (If (ae (aU zz ln 0)) k) ((aU zz ln 0).length),Nz n,aC 2 27 (If (ae (aU zz ln n)) k) ((aU zz ln n).length)]
def Gs (zz:Nat->Nat->Int) (ln:Nat->Nat) (k:Nat) (j:Nat):List WP:=[Nz j,aC 2 27 (If (ae (aU zz ln j)) k) ((aU zz ln j).length),fun _ _=>True,fun w v=>Ptr 1 (fun w v=>∃s,v = .agg #[s]∧Rw 2 (If (zz j) k) (ln j) w s) w v,Rw 2 (If (zz j) k) (ln j),fun w v=>aC 2 27 (fun ι w v=>aF w v ((ae (aU zz ln (j+1))) ι) k) (aU zz ln (j+1)).length w v,Nz (j+1)]
def xe:bJ:=⟨[0,2,3,9,10,11,12,23,24,25,26],[(.slot 27,.i),(.slot 6,.s)],[(.one 0,6),(.one 1,.cD [1] 7),(.one 1,.lo 1)],[.closed (.one (.ci .i64 0)),.frm 3,.frm 0],6,[(7,5)]⟩
def xf:List Step:=[bQ [6,4] oT (au .lss),bQ [0,6] [oP 9] (aN 129),bQ [9] [oS 10] (aO 24),.base ⟨0,[7,10],[oS 11],.loose [] 1 0 (bO 24 24)⟩,bQ [6,.lit (.ci .i64 1)] [oN 12] (au .add)]
def Gt:List Step:=[bQ [6,4] oF (au .lss)]
def Gu (zz:Nat->Nat->Int) (ln:Nat->Nat) (k:Nat) (j:Nat):List WP:=[Nz j,Ni (((aU zz ln j).length:Nat):Int),fun w v=>Ptr 1 (fun w v=>∃s,v = .agg #[s]∧Rw 2 (If (zz j) k) (ln j) w s) w v,Rw 2 (If (zz j) k) (ln j),Nz (ln j),Ni (((aU zz ln (j+1)).length:Nat):Int),Nz (j+1)]
def xg:bJ:=⟨[0,2,9,10],[(.slot 11,.i),(.slot 3,.i)],[(.one 0,6),(.one 1,7)],[.closed (.one (.ci .i64 0)),.closed (.one (.ci .i64 0))],6,[(7,2)]⟩
def xh:List Step:=[bQ [6,1] oT (au .lss),bQ [0,6] [oP 8] (aN 129),bQ [8] [oS 9] (aO 24),bQ [9] [oN 10] (aK 24),bQ [7,10] [oN 11] (au .add),bQ [11,.lit (.ci .i64 0)] oF (au .lss),bQ [6,.lit (.ci .i64 1)] [oN 12] (au .add)]
def Gv:List Step:=[bQ [6,1] oF (au .lss)]
def Gw:List Step:=[bQ [0] [oN 1] (aK 129),.loop xg [(xh,[.frm 12,.frm 11])] Gv,.base ⟨158,[.lit .nl,2],[oS 3],.eN [] 1⟩,bQ [0] [oN 4] (aK 129),.loop xe [(xf,[.frm 12,.frm 11,.frm 0])] Gt]
def Gx:List Out:=[oS 0]
theorem Gy {zz:Nat->Nat->Int}{ln:Nat->Nat}{k:Nat} (hn:n<=1000) (hs:∀j,j<=n->(aU zz ln j).length<=1000000):eY (ph (nd zz ln n k)) prog ⟨123,[0],[oS 5],false⟩:=by
 have hsn:=hs n (Nat.le_refl n)
 exact jf Gx [oS 5] Gw func123 (by kernel_rfl) (lB (aS (F:=(gU zz ln k)) underlying129 ad rfl) (cm (counted n (fun j=>ph (nd zz ln n k ++ Gu zz ln k j)) (fun _=>0) (fun j p hp=>cn (show p<(nd zz ln n k).length from hp)) ⟨fun _=>rfl,fun _=>rfl,trivial⟩ (fun j hj=>by
   have hs1:=hs (j+1) (by omega);have hs0:=hs j (by omega)
   exact ⟨(xh,[.frm 12,.frm 11]),rfl,⟨ad,ad,trivial⟩,(lB (bH ad ad) (lB (co (i:=j) (F:=(gU zz ln k)) underlying129 ad ad rfl) (lB (fi ad (fun _ _ h=>dE h) rfl) (lB (aS (F:=(If (zz j) k)) underlying24 ad rfl) (lB (jg ad ad (hc:=(by rw [pF];omega)) rfl) (lB (cB (op:=.lss) ad (cj (show decide ((((aU zz ln (j+1)).length:Nat):Int)<0)=false from decide_eq_false (by omega)) (by simp))) (lB (ct ad rfl) aD)))))))⟩) (lB (tlF ad ad) aD)
   (fun q hq w v h=>by
    simp only [xg,List.mem_cons,List.not_mem_nil,or_false] at hq
    rcases hq with rfl
    ·exact (fun h=>h) h)) (lB (Gn (F:=(If (ae (aU zz ln 0)) k)) ad rfl) (lB (aS (F:=(gU zz ln k)) underlying129 ad rfl) (cm (counted n (fun j=>ph (nd zz ln n k ++ Gs zz ln k j)) (fun _=>0) (fun j p hp=>cn (show p<(nd zz ln n k).length from hp)) ⟨fun _=>rfl,ad,bS,trivial⟩ (fun j hj=>by
   skip
   exact ⟨(xf,[.frm 12,.frm 11,.frm 0]),rfl,⟨ad,ad,bS,trivial⟩,(lB (bH ad ad) (lB (co (i:=j) (F:=(gU zz ln k)) underlying129 ad ad rfl) (lB (fi ad (fun _ _ h=>dE h) rfl) (lB (Gp (hs (j+1) (by omega)) ad ad rfl) (lB (ct ad rfl) aD)))))⟩) (lB (tlF ad ad) aD)
   (fun q hq w v h=>by
    simp only [xe,List.mem_cons,List.not_mem_nil,or_false] at hq
    rcases hq with rfl
    ·exact (fun h=>h) h)) aD)))))
  (aM [.fact 0 (.one (.s))] ⟨Rw.Is 1 (gU zz ln k) n,trivial⟩) aV
end Go.Proofs.YtbjfgffibepmkaaGreat.Sym
