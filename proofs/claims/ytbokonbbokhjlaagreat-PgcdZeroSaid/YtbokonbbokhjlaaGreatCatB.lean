/- slices.Grow of nothing; slices.Concat of polynomials. -/
import Derived.Test.YtbokonbbokhjlaaGreatCatA
import Derived.Test.YtbokonbbokhjlaaGreatDivT
import Derived.Test.YtbokonbbokhjlaaGreatPolL
set_option maxRecDepth 100000
namespace Go.Proofs.YtbokonbbokhjlaaGreat.Sym
open Go.RowKit
def rV (sz:Nat) (e:TypeId) (w:World) (v:Value):Prop:=∃g n cap cur,v = .slice (some ⟨g,0,none⟩) n cap∧w.heap[g]?=some (.cells cur e (0,0))∧cap<=maxLen∧cur.size=cap*sz∧∀x,x ∈ cur.toList->cM x
def no (T:TypeId):Op->Option (List Operand)
 | .call ⟨.builtin .cap,args,ts⟩=>if ts = #[T] then some args.toList else none
 | _=>none
section
variable {P:Program}{Φ:PH}{p x j:Nat}
theorem rW {T e:TypeId} (hT:P.underlying T=some (.slice e)):ai Φ P ⟨0,[.lit .nl],[oL (.ci .i64 0)],.quiet (no T)⟩:=fun X w ac o xs _ hm ha=>by
 unfold no at hm
 split at hm
 case h_2=>cases hm
 rename_i args ts ho
 split at hm
 case isFalse=>cases hm
 rename_i hts
 subst hts
 simp only [Option.some.injEq] at hm
 subst hm
 match hl:args.toList,ha with
 | [y],ha=>
  have hv:ac.eval y = .slice none 0 0:=ha.1
  have hargs:args = #[y]:=by apply Array.ext';simpa using hl
  subst hargs
  refine ⟨.int .i64 0,w,?_,ba w none,⟨⟨⟨rfl,fun _ h=>by cases h⟩,fun r hr=>by cases hr⟩,trivial⟩⟩
  unfold execOp
  simp [ho,resolve,invoke,builtin,Builtin.cap_,run_underlying hT,hv,goInt]
theorem rX {T e:TypeId} (hT:P.underlying T=some (.slice e)):ai Φ P ⟨0,[.lit .nl],[oL (.ci .i64 0)],.quiet (aD T)⟩:=fun X w ac o xs _ hm ha=>by
 unfold aD at hm
 split at hm
 case h_2=>cases hm
 rename_i args ts ho
 split at hm
 case isFalse=>cases hm
 rename_i hts
 subst hts
 simp only [Option.some.injEq] at hm
 subst hm
 match hl:args.toList,ha with
 | [y],ha=>
  have hv:ac.eval y = .slice none 0 0:=ha.1
  have hargs:args = #[y]:=by apply Array.ext';simpa using hl
  subst hargs
  refine ⟨.int .i64 0,w,?_,ba w none,⟨⟨⟨rfl,fun _ h=>by cases h⟩,fun r hr=>by cases hr⟩,trivial⟩⟩
  unfold execOp
  simp [ho,resolve,invoke,builtin,Builtin.len_,run_underlying hT,hv,goInt]
theorem xi {T:TypeId}{o:Op}{xs:List Operand} (h:dI T o=some xs):∃y z,o = .slice T y none (some z) none∧xs = [y,z]:=by
 unfold dI at h
 split at h
 case h_2=>cases h
 rename_i t y z
 split at h
 case isFalse=>cases h
 rename_i ht
 subst ht
 simp only [Option.some.injEq] at h
 exact ⟨y,z,rfl,h.symm⟩
theorem FX {T e:TypeId}{sz:Nat} (hT:P.underlying T=some (.slice e)) (hz:dJ P e=some sz):ai Φ P ⟨0,[.lit .nl,.lit (.ci .i64 0)],[⟨.one (.lit .nl),[]⟩],.quiet (dI T)⟩:=fun X w ac o xs _ hm ha=>by
 obtain ⟨y,z,ho,rfl⟩:=xi hm
 have hv:ac.eval y = .slice none 0 0:=ha.1
 have hi2:ac.eval z = .int .i64 0:=ha.2.1
 refine ⟨.slice none 0 0,w,?_,ba w none,⟨⟨⟨rfl,fun _ h=>by cases h⟩,fun r hr=>by cases hr⟩,trivial⟩⟩
 unfold execOp
 simp only [ho,Option.map_none,Option.map_some,hv,hi2]
 simp [Instr.sliceAt,Instr.slice,run_underlying hT,Instr.sliceBounds,run_sliceBound (P:=P) w .i64 (0:Int) 0 .sliceAcap (by omega) (by omega),run_sizeOf hz]
theorem FY {T e:TypeId}{sz:Nat}{F:PH} (hT:P.underlying T=some (.slice e)) (hz:dJ P e=some sz) (hp:∀w v,Φ p w v->rV sz e w v) (hx:Φ x=ah sz e F 0):ai Φ P ⟨0,[.fact p,.lit (.ci .i64 0)],[oS x],.loose [] j 0 (dI T)⟩:=fun X L w ac o xs hX hL hLX hm ha hb _=>by
 obtain ⟨y,z,ho,rfl⟩:=xi hm
 obtain ⟨g,n,cap,cur,hv,hh,hc,hs,hn⟩:=hp _ _ (ha.1 w (Off.refl _ _))
 have hi2:ac.eval z = .int .i64 0:=ha.2.1
 have hLg:L g:=hb y g rfl (by rw [hv];rfl)
 refine ⟨.slice (some ⟨g,0,none⟩) 0 cap,w,none,?_,ba w none,(fun _ h=>by cases h),Kp.refl _,(fun m k v _ h4 h5=>⟨h4,h5⟩),fun m hm'=>?_,cJ ⟨⟨_,_,_,rfl⟩,fun _ h=>by cases h⟩ hx fun w1 hw=>?_⟩
 ·unfold execOp
  have ha0:((some (⟨g,0,none⟩:Addr)).map fun y=>y.add 0)=some ⟨g,0,none⟩:=by simp [Addr.add_zero']
  simp only [ho,Option.map_none,Option.map_some,hv,hi2]
  simp [Instr.sliceAt,Instr.slice,run_underlying hT,Instr.sliceBounds,run_sliceBound (P:=P) w .i64 (0:Int) cap .sliceAcap (by omega) (by omega),run_sizeOf hz,Addr.add_zero']
 ·simp only [blk,Option.some.injEq] at hm'
  subst hm'
  exact ⟨hL g hLg,.inl hLg⟩
 ·have hw1:w1.heap[g]?=some (.cells cur e (0,0)):=by
   rw [hw.2 g (hL g hLg) (hLX g hLg)];exact hh
  refine ⟨[],rfl,(fun _ h=>by cases h),⟨⟨by simp,.inr ⟨g,cap,cur,rfl,Nat.zero_le _,hw1,Nat.zero_le _,hc,hs,by simp⟩⟩,fun g' cur' e' p' hg' hh' u hu=>?_⟩,fun i r h=>by simp at h⟩
  simp only [Value.ownBlock,Option.some.injEq] at hg'
  subst hg'
  rw [hw1] at hh'
  cases hh'
  exact hn u hu
end
section
variable {Φ:PH}{p q x n m k j:Nat}{F:PH}{J:List Nat}
theorem FZ (hq:∀w v,Φ q w v->v = .int .i64 (n:Int)) (h0:0<n) (hn:n<=1000000) (hx:Φ x=rV 2 52):ai Φ Tryz.prog ⟨0,[.lit .nl,.fact q],[oS x],.loose [] j 0 (fN 28 3)⟩:=fun X L w ac o ys hX hL hLX hm ha hb _=>by
 obtain ⟨y,u,hys⟩:∃y u,ys.map ac.eval = [y,u]:=by
  match ys.map ac.eval,ha with
  | [y,u],_=>exact ⟨y,u,rfl⟩
 rw [show List.map ac.eval ys = [y,u] from hys] at ha
 obtain ⟨a,b,ho,rfl,ea,eb⟩:=pD hm hys
 have hy:y = .slice none 0 0:=ha.1
 have hu:=hq _ _ (ha.2.1 w (Off.refl _ _))
 obtain ⟨i0,hi,hz0,hz1,hz2⟩:=info_parts infoI
 have hcm:grownCap w (0+n) 0 52<=maxLen:=grownCap_le_maxLen w (0+n) 0 52 (by simp only [maxLen];omega)
 have hge:=grownCap_ge w (0+n) 0 52
 have hr:=Lib.run_append_grow_zeros (P:=Tryz.prog) w 28 3 o.type 52 i0 _ .i64 .i64 Tryz.underlying28 Tryz.underlying3 hi hz0 none 0 0 [] (by simp [Builtin.firstCells]) n h0 (by rw [hz1];omega) (by omega) (by omega) (by rw [hz2];omega) (growslice_fits (by omega) (by rw [hz2];omega))
 have hrun:=nj (o:=o) (P:=Tryz.prog) ho (by rw [ea,hy]) (by rw [eb,hu]) hr
 have hgr:∀b,w.grownBy (w.drew.alloc b) none:=fun b=>⟨rfl,rfl,rfl,(World.grownBy_alloc w.drew b none).size,(World.grownBy_alloc w.drew b none).block⟩
 refine ⟨_,_,none,hrun,hgr _,(fun _ h=>by cases h),Kp.of (hgr _),(fun m q v _ h4 h5=>⟨cell_grown (hgr _) h4,gI (hgr _) h4 h5⟩),fun m hm'=>?_,cJ ⟨⟨_,_,_,rfl⟩,fun _ h=>by cases h⟩ hx fun w1 hw=>?_⟩
 ·simp only [blk,Option.some.injEq] at hm'
  subst hm'
  exact ⟨by simp,.inr (Nat.le_refl _)⟩
 ·refine ⟨w.heap.size,_,_,_,rfl,(hw.2 w.heap.size (by simp) (fun h=>by have:=hX _ h;omega)).trans (heap_alloc_new w.drew _),hcm,?_,fun u hu=>?_⟩
  ·simp only [Array.size_append,List.size_toArray,List.length_nil,size_zeroCells,Nat.zero_add] at hge ⊢
   rw [show (Value.agg #[.bool false,.slice none 0 0]).cells.size=2 from rfl]
   omega
  ·simp only [Array.toList_append,List.mem_append] at hu
   rcases hu with (hu | hu) | hu
   ·simp at hu
   ·exact mh pF (by decide) _ u hu
   ·exact mh pF (by decide) _ u hu
end
def F5 (n:Nat):List WP:=[Nz n,Nz n,rV 2 52,ah 2 52 (If (fun _=>0) 0) 0]
def F6:List Step:=[bQ [.fact 0,.lit (.ci .i64 0)] oF (ak .lss),
   bQ [.lit .nl] [oL (.ci .i64 0)] (no 28),
   bQ [.lit .nl] [oL (.ci .i64 0)] (aD 28),
   bQ [.fact 0,.lit (.ci .i64 0)] [oN 1] (ak .sub),
   bQ [.fact 1,.lit (.ci .i64 0)] oT (ak .gtr),
   bQ [.lit .nl] [oL (.ci .i64 0)] (no 28),
   bQ [.lit .nl,.lit (.ci .i64 0)] [⟨.one (.lit (.nl)),[]⟩] (dI 28),
   .base ⟨0,[.lit .nl,.fact 1],[oS 2],.loose [] 1 0 (fN 28 3)⟩,
   bQ [.lit .nl] [oL (.ci .i64 0)] (aD 28),
   .base ⟨0,[.fact 2,.lit (.ci .i64 0)],[oS 3],.loose [] 1 0 (dI 28)⟩]
def F9:List Out:=[⟨.one (.lit (.nl)),[]⟩,oN 0]
theorem Ga {n:Nat} (hn:n<=1000000) (h0:0<n):fO (ph (F5 n)) Tryz.prog ⟨133,[.lit (.nl),.fact 0],[oS 3],false⟩:=by
 skip
 exact nr F9 [oS 3] F6 Tryz.func133 (by kernel_rfl)
  (lB (bW (op:=.lss) ad (bN (show decide (((n:Nat):Int)<0)=false from decide_eq_false (by omega)) (by simp)))
   (lB (rW Tryz.underlying28)
   (lB (rX Tryz.underlying28)
   (lB (bK ad (by omega) rfl (by omega) (by omega))
   (lB (d3 ad)
   (lB (rW Tryz.underlying28)
   (lB (FX (sz:=2) Tryz.underlying28 (by kernel_rfl))
   (lB (FZ ad (by omega) (by omega) rfl)
   (lB (rX Tryz.underlying28)
   (lB (FY (F:=(If (fun _=>0) 0)) Tryz.underlying28 (by kernel_rfl) ad rfl)
   aw))))))))))
  (aL [.lit (.nl),.fact 0 (.one (.i))] ⟨(fun _ h=>by cases h),fun _ _ h=>h▸eQ _,trivial⟩) (fun _ _ _ h=>h)
def Gb (n:Nat):List WP:=[Nz n,Nz n]
def Gc:List Step:=[bQ [.fact 0,.lit (.ci .i64 0)] oF (ak .lss),
   bQ [.lit .nl] [oL (.ci .i64 0)] (no 28),
   bQ [.lit .nl] [oL (.ci .i64 0)] (aD 28),
   bQ [.fact 0,.lit (.ci .i64 0)] [oN 1] (ak .sub),
   bQ [.fact 1,.lit (.ci .i64 0)] oF (ak .gtr)]
def Gd:List Out:=[⟨.one (.lit (.nl)),[]⟩,oN 0]
theorem Gf {n:Nat} (h0:n=0):ai (ph (Gb n)) Tryz.prog ⟨133,[.lit (.nl),.fact 0],[⟨.one (.lit (.nl)),[]⟩],false⟩:=by
 skip
 exact aV Gd [⟨.one (.lit (.nl)),[]⟩] Gc Tryz.func133 (by kernel_rfl)
  (lB (bW (op:=.lss) ad (bN (show decide (((n:Nat):Int)<0)=false from decide_eq_false (by omega)) (by simp)))
   (lB (rW Tryz.underlying28)
   (lB (rX Tryz.underlying28)
   (lB (bK ad (by omega) rfl (by omega) (by omega))
   (lB (jW ad)
   aw)))))
  (aL [.lit (.nl),.fact 0 (.one (.i))] ⟨(fun _ h=>by cases h),fun _ _ h=>h▸eQ _,trivial⟩) (fun _ _ _ h=>h)
def bO (zz:Nat->Nat->Int) (ln:Nat->Nat):Nat->List Int
 | 0=>[]
 | j+1=>bO zz ln j ++ mk (ln j) (zz j)
theorem rY (zz:Nat->Nat->Int) (ln:Nat->Nat) (j:Nat):(bO zz ln (j+1)).length=(bO zz ln j).length+ln j:=by
 rw [bO,List.length_append,iG]
theorem xj (A B:List Int) (i:Nat):ae (A ++ B) i=if i<A.length then ae A i else ae B (i-A.length):=by
 unfold ae
 simp only [List.getD_eq_getElem?_getD,List.getElem?_append]
 split <;> rfl
theorem xk {sz n:Nat}{F:PH}{w:World}{v:Value} (h:Rw sz F n w v):∃p n c,v = .slice p n c:=by
 obtain ⟨p,c,rfl,_⟩:=h;exact ⟨_,_,_,rfl⟩
section
variable {Φ:PH}{p q x n m k j i:Nat}{F:PH}{J:List Nat}{zz:Nat->Nat->Int}{ln:Nat->Nat}
theorem Gg (hq:∀w v,Φ q w v->v = .int .i64 (n:Int)) (hx:Φ x=ah 2 52 F 0) (hn:n<=1000000):ai Φ Tryz.prog ⟨133,[.lit .nl,.fact q],[oS x],.cu J j⟩:=by
 rcases Nat.eq_zero_or_pos n with h | h
 ·intro X w vs hX ha
  refine (aW (outs:=[⟨.one (.lit .nl),[]⟩]) (Φ:=Φ) (ar:=[.lit .nl,.fact q]) (Gf (n:=n) h) ⟨rfl,hq,trivial⟩ ⟨⟨rfl,trivial⟩,trivial⟩ X w vs hX ha).mono fun e w' ⟨hg,us,he,h2⟩=>?_
  match us,h2 with
  | [u],h2=>
   have e':u = .slice none 0 0:=h2.1.1.1
   subst e'
   exact ⟨hg,_,he,cJ ⟨⟨_,_,_,rfl⟩,fun _ h=>by cases h⟩ hx fun w1 _=>ah.nil _ _ _ _,fun g hg'=>by cases hg'⟩
 ·exact pG (Ga (n:=n) hn h) ⟨rfl,hq,trivial⟩ ⟨⟨rfl,⟨rfl,rfl,fun _ _ h=>by
   rw [hx]
   exact ah.to (sz:=2) (e:=52) (n:=0) (F:=If (fun _=>0) 0) h fun i w v hi=>absurd hi (by omega)⟩,trivial⟩,trivial⟩
theorem Gh (hn:(bO zz ln (i+1)).length<=1000000) (hp:∀w v,Φ p w v->ah 2 52 (If (ae (bO zz ln i)) k) (bO zz ln i).length w v) (hq:∀w v,Φ q w v->Rw 2 (If (zz i) k) (ln i) w v) (hx:Φ x=fun w v=>ah 2 52 (fun ι w v=>aC w v (ae (bO zz ln (i+1)) ι) k) (bO zz ln (i+1)).length w v):ai Φ Tryz.prog ⟨0,[.fact p,.fact q],[oS x],.loose [] j 0 (fN 28 28)⟩:=by
 obtain ⟨i0,hi,hz0,hz1,hz2⟩:=info_parts infoI
 refine FW (F':=fun ι w v=>aC w v (ae (bO zz ln (i+1)) ι) k) Tryz.underlying28 hi hz0 hz1 hz2 rfl (by omega) (by omega) pF (fun _ _ _ _ g h=>aC.kp h g) hp hq (fun ι w v hι h=>?_) (fun ι w v hι h=>?_) (fun ι w l h=>aC.iH h) (by rw [<- rY];exact hn) (by rw [hx,rY])
 ·rw [bO,xj,if_pos hι];exact h
 ·rw [bO,xj,if_neg (by omega),Nat.add_sub_cancel_left,fl,if_pos hι];exact h
end
def nt (zz:Nat->Nat->Int) (ln:Nat->Nat) (n k:Nat):List WP:=[Rw 1 (bf zz ln k) n,Nz n,Ni (((bO zz ln n).length:Nat):Int),ah 2 52 (If (ae (bO zz ln 0)) k) ((bO zz ln 0).length),Nz n,ah 2 52 (If (ae (bO zz ln n)) k) ((bO zz ln n).length)]
def Gi (zz:Nat->Nat->Int) (ln:Nat->Nat) (k:Nat) (j:Nat):List WP:=[Nz j,ah 2 52 (If (ae (bO zz ln j)) k) ((bO zz ln j).length),fun _ _=>True,fun w v=>Ptr 1 (fun w v=>∃s,v = .agg #[s]∧Rw 2 (If (zz j) k) (ln j) w s) w v,Rw 2 (If (zz j) k) (ln j),fun w v=>ah 2 52 (fun ι w v=>aC w v ((ae (bO zz ln (j+1))) ι) k) (bO zz ln (j+1)).length w v,Nz (j+1)]
def xl:bg:=⟨[0,2,3,9,10,11,12,23,24,25,26],[(.slot 27,.i),(.slot 6,.s)],[(.one 0,6),(.one 1,.Ru [1] 7),(.one 1,.lo 1)],[.closed (.one (.ci .i64 0)),.frm 3,.frm 0],6,[(7,5)]⟩
def xm:List Step:=[bQ [.fact 6,.fact 4] oT (ak .lss),
   bQ [.fact 0,.fact 6] [oP 9] (aG 41),
   bQ [.fact 9] [oS 10] (aM 28),
   .base ⟨0,[.fact 7,.fact 10],[oS 11],.loose [] 1 0 (fN 28 28)⟩,
   bQ [.fact 6,.lit (.ci .i64 1)] [oN 12] (ak .add)]
def Gj:List Step:=[bQ [.fact 6,.fact 4] oF (ak .lss)]
def Gk (zz:Nat->Nat->Int) (ln:Nat->Nat) (k:Nat) (j:Nat):List WP:=[Nz j,Ni (((bO zz ln j).length:Nat):Int),fun w v=>Ptr 1 (fun w v=>∃s,v = .agg #[s]∧Rw 2 (If (zz j) k) (ln j) w s) w v,Rw 2 (If (zz j) k) (ln j),Nz (ln j),Ni (((bO zz ln (j+1)).length:Nat):Int),Nz (j+1)]
def xn:bg:=⟨[0,2,9,10],[(.slot 11,.i),(.slot 3,.i)],[(.one 0,6),(.one 1,7)],[.closed (.one (.ci .i64 0)),.closed (.one (.ci .i64 0))],6,[(7,2)]⟩
def xo:List Step:=[bQ [.fact 6,.fact 1] oT (ak .lss),
   bQ [.fact 0,.fact 6] [oP 8] (aG 41),
   bQ [.fact 8] [oS 9] (aM 28),
   bQ [.fact 9] [oN 10] (aD 28),
   bQ [.fact 7,.fact 10] [oN 11] (ak .add),
   bQ [.fact 11,.lit (.ci .i64 0)] oF (ak .lss),
   bQ [.fact 6,.lit (.ci .i64 1)] [oN 12] (ak .add)]
def Gl:List Step:=[bQ [.fact 6,.fact 1] oF (ak .lss)]
def Gm:List Step:=[bQ [.fact 0] [oN 1] (aD 41),
   .loop xn [(xo,[.frm 12,.frm 11])] Gl,
   .base ⟨133,[.lit .nl,.fact 2],[oS 3],.cu [] 1⟩,
   bQ [.fact 0] [oN 4] (aD 41),
   .loop xl [(xm,[.frm 12,.frm 11,.frm 0])] Gj]
def Gn:List Out:=[oS 0]
theorem concat {zz:Nat->Nat->Int}{ln:Nat->Nat}{n k:Nat} (hn:n<=1000) (hs:∀j,j<=n->(bO zz ln j).length<=1000000):ai (ph (nt zz ln n k)) Tryz.prog ⟨111,[.fact 0],[oS 5],false⟩:=by
 have hsn:=hs n (Nat.le_refl n)
 exact aV Gn [oS 5] Gm Tryz.func111 (by kernel_rfl)
  (lB (aP (F:=(bf zz ln k)) Tryz.underlying41 ad rfl)
   (bz (counted n (fun j=>ph (nt zz ln n k ++ Gk zz ln k j)) (fun _=>0) (fun j p hp=>bB (show p<(nt zz ln n k).length from hp)) ⟨fun _=>rfl,fun _=>rfl,trivial⟩ (fun j hj=>by
   have hs1:=hs (j+1) (by omega);have hs0:=hs j (by omega)
   exact ⟨(xo,[.frm 12,.frm 11]),rfl,⟨ad,ad,trivial⟩,(lB (cU ad ad)
   (lB (bZ (i:=j) (F:=(bf zz ln k)) Tryz.underlying41 (by kernel_rfl) ad ad (by omega) rfl)
   (lB (mj (by kernel_rfl) ad (fun _ _ h=>xk h) rfl)
   (lB (aP (F:=(If (zz j) k)) Tryz.underlying28 ad rfl)
   (lB (fm ad ad (by rw [rY];omega) rfl (by omega) (by omega))
   (lB (bW (op:=.lss) ad (bN (show decide ((((bO zz ln (j+1)).length:Nat):Int)<0)=false from decide_eq_false (by omega)) (by simp)))
   (lB (cN ad (by omega) rfl (by omega) (by omega))
   aw)))))))⟩)
   (lB (tlF ad ad)
   aw)
   (fun q hq w v h=>by
    simp only [xn,List.mem_cons,List.not_mem_nil,or_false] at hq
    rcases hq with rfl
    ·exact (fun h=>h) h)) (lB (Gg (F:=(If (ae (bO zz ln 0)) k)) ad rfl (by omega))
   (lB (aP (F:=(bf zz ln k)) Tryz.underlying41 ad rfl)
   (bz (counted n (fun j=>ph (nt zz ln n k ++ Gi zz ln k j)) (fun _=>0) (fun j p hp=>bB (show p<(nt zz ln n k).length from hp)) ⟨fun _=>rfl,ad,aS,trivial⟩ (fun j hj=>by
   skip
   exact ⟨(xm,[.frm 12,.frm 11,.frm 0]),rfl,⟨ad,ad,aS,trivial⟩,(lB (cU ad ad)
   (lB (bZ (i:=j) (F:=(bf zz ln k)) Tryz.underlying41 (by kernel_rfl) ad ad (by omega) rfl)
   (lB (mj (by kernel_rfl) ad (fun _ _ h=>xk h) rfl)
   (lB (Gh (hs (j+1) (by omega)) ad ad rfl)
   (lB (cN ad (by omega) rfl (by omega) (by omega))
   aw)))))⟩)
   (lB (tlF ad ad)
   aw)
   (fun q hq w v h=>by
    simp only [xl,List.mem_cons,List.not_mem_nil,or_false] at hq
    rcases hq with rfl
    ·exact (fun h=>h) h)) aw)))))
  (aL [.fact 0 (.one (.s))] ⟨Rw.Is 1 (bf zz ln k) n,trivial⟩) bc
end Go.Proofs.YtbokonbbokhjlaaGreat.Sym
