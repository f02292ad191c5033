/- slices.Grow of nothing -/
import Derived.Test.YtomamliepbhegaaGreatCatA
import Derived.Test.YtomamliepbhegaaGreatDivT
import Derived.Test.YtomamliepbhegaaGreatPolL
set_option maxRecDepth 100000
namespace Go.Proofs.YtomamliepbhegaaGreat.Sym
open Go.Proofs.Tryz
open Go.RowKit
variable {T e:TypeId}{k n sz:Nat}{F:PH}{zz:Nat->Nat->Int}{ln:Nat->Nat}
def uE (sz:Nat) (e:TypeId) (w:World) (v:Value):Prop:=∃g n cap cur,v = .slice (some ⟨g,0,none⟩) n cap∧w.heap[g]?=some (.cells cur e (0,0))∧cap<=maxLen∧cur.size=cap*sz∧∀x,x ∈ cur.toList->cX x
def pK (T:TypeId):Op->Option (List Operand)
 | .call ⟨.builtin .cap,args,ts⟩=>if ts = #[T] then some args.toList else none
 | _=>none
section
variable {P:Program}{Φ:PH}{p x j:Nat}
theorem uF  (hT:P.underlying T=some (.slice e)):aj Φ P ⟨0,[.lit .nl],[oL (.ci .i64 0)],.quiet (pK T)⟩:=fun X w ac o xs _ hm ha=>by
 unfold pK at hm
 split at hm
 case h_2=>cases hm
 rename_i args ts ho
 split at hm
 case isFalse=>cases hm
 rename_i hts
 subst hts
 simp only [Option.some.injEq] at hm
 subst hm
 match hl:args.toList,ha with
 | [y],ha=>
  have hv:ac.eval y = .slice none 0 0:=ha.1
  have hargs:args = #[y]:=by apply Array.ext';simpa using hl
  subst hargs
  refine ⟨.int .i64 0,w,?_,bh w none,⟨⟨⟨rfl,fun _ h=>by cases h⟩,fun r hr=>by cases hr⟩,trivial⟩⟩
  unfold execOp
  simp [ho,resolve,invoke,builtin,Builtin.cap_,run_underlying hT,hv,goInt]
theorem uG  (hT:P.underlying T=some (.slice e)):aj Φ P ⟨0,[.lit .nl],[oL (.ci .i64 0)],.quiet (aC T)⟩:=fun X w ac o xs _ hm ha=>by
 unfold aC at hm
 split at hm
 case h_2=>cases hm
 rename_i args ts ho
 split at hm
 case isFalse=>cases hm
 rename_i hts
 subst hts
 simp only [Option.some.injEq] at hm
 subst hm
 match hl:args.toList,ha with
 | [y],ha=>
  have hv:ac.eval y = .slice none 0 0:=ha.1
  have hargs:args = #[y]:=by apply Array.ext';simpa using hl
  subst hargs
  refine ⟨.int .i64 0,w,?_,bh w none,⟨⟨⟨rfl,fun _ h=>by cases h⟩,fun r hr=>by cases hr⟩,trivial⟩⟩
  unfold execOp
  simp [ho,resolve,invoke,builtin,Builtin.len_,run_underlying hT,hv,goInt]
theorem Af {o:Op}{xs:List Operand} (h:ec T o=some xs):∃y z,o = .slice T y none (some z) none∧xs = [y,z]:=by
 unfold ec at h
 split at h
 case h_2=>cases h
 rename_i t y z
 split at h
 case isFalse=>cases h
 rename_i ht
 subst ht
 simp only [Option.some.injEq] at h
 exact ⟨y,z,rfl,h.symm⟩
theorem Md  (hT:P.underlying T=some (.slice e)) (hz:ee P e=some sz:=by kernel_rfl):aj Φ P ⟨0,[.lit .nl,.lit (.ci .i64 0)],[⟨.one (.lit .nl),[]⟩],.quiet (ec T)⟩:=fun X w ac o xs _ hm ha=>by
 obtain ⟨y,z,ho,rfl⟩:=Af hm
 have hv:ac.eval y = .slice none 0 0:=ha.1
 have hi2:ac.eval z = .int .i64 0:=ha.2.1
 refine ⟨.slice none 0 0,w,?_,bh w none,⟨⟨⟨rfl,fun _ h=>by cases h⟩,fun r hr=>by cases hr⟩,trivial⟩⟩
 unfold execOp
 simp only [ho,Option.map_none,Option.map_some,hv,hi2]
 simp [Instr.sliceAt,Instr.slice,run_underlying hT,Instr.sliceBounds,run_sliceBound (P:=P) w .i64 (0:Int) 0 .sliceAcap (by omega) (by omega),run_sizeOf hz]
theorem Me  (hT:P.underlying T=some (.slice e)) (hp:∀w v,Φ p w v->uE sz e w v) (hx:Φ x=ah sz e F 0) (hz:ee P e=some sz:=by kernel_rfl):aj Φ P ⟨0,[.fact p,.lit (.ci .i64 0)],[oS x],.loose [] j 0 (ec T)⟩:=fun X L w ac o xs hX hL hLX hm ha hb _=>by
 obtain ⟨y,z,ho,rfl⟩:=Af hm
 obtain ⟨g,n,cap,cur,hv,hh,hc,hs,hn⟩:=hp _ _ (ha.1 w (Off.refl _ _))
 have hi2:ac.eval z = .int .i64 0:=ha.2.1
 have hLg:L g:=hb y g rfl (by rw [hv];rfl)
 refine ⟨.slice (some ⟨g,0,none⟩) 0 cap,w,none,?_,bh w none,(fun _ h=>by cases h),Kp.refl _,(fun m k v _ h4 h5=>⟨h4,h5⟩),fun m hm'=>?_,cL ⟨⟨_,_,_,rfl⟩,fun _ h=>by cases h⟩ hx fun w1 hw=>?_⟩
 ·unfold execOp
  have ha0:((some (⟨g,0,none⟩:Addr)).map fun y=>y.add 0)=some ⟨g,0,none⟩:=by simp [Addr.add_zero']
  simp only [ho,Option.map_none,Option.map_some,hv,hi2]
  simp [Instr.sliceAt,Instr.slice,run_underlying hT,Instr.sliceBounds,run_sliceBound (P:=P) w .i64 (0:Int) cap .sliceAcap (by omega) (by omega),run_sizeOf hz,Addr.add_zero']
 ·simp only [blk,Option.some.injEq] at hm'
  subst hm'
  exact ⟨hL g hLg,.inl hLg⟩
 ·have hw1:w1.heap[g]?=some (.cells cur e (0,0)):=by
   rw [hw.2 g (hL g hLg) (hLX g hLg)];exact hh
  refine ⟨[],rfl,(fun _ h=>by cases h),⟨⟨by simp,.inr ⟨g,cap,cur,rfl,Nat.zero_le _,hw1,Nat.zero_le _,hc,hs,by simp⟩⟩,fun g' cur' e' p' hg' hh' u hu=>?_⟩,fun i r h=>by simp at h⟩
  simp only [Value.ownBlock,Option.some.injEq] at hg'
  subst hg'
  rw [hw1] at hh'
  cases hh'
  exact hn u hu
end
section
variable {Φ:PH}{p q x m j:Nat}{J:List Nat}
theorem Mf (hq:∀w v,Φ q w v->v = .int .i64 (n:Int)) (hx:Φ x=uE 2 57) (h0:0<n:=by omega) (hn:n<=1000000:=by omega):aj Φ prog ⟨0,[.lit .nl,.fact q],[oS x],.loose [] j 0 (eF 28 3)⟩:=fun X L w ac o ys hX hL hLX hm ha hb _=>by
 obtain ⟨y,u,hys⟩:∃y u,ys.map ac.eval = [y,u]:=by
  match ys.map ac.eval,ha with
  | [y,u],_=>exact ⟨y,u,rfl⟩
 rw [show List.map ac.eval ys = [y,u] from hys] at ha
 obtain ⟨a,b,ho,rfl,ea,eb⟩:=rN hm hys
 have hy:y = .slice none 0 0:=ha.1
 have hu:=hq _ _ (ha.2.1 w (Off.refl _ _))
 obtain ⟨i0,hi,hz0,hz1,hz2⟩:=info_parts infoI
 have hcm:grownCap w (0+n) 0 57<=maxLen:=grownCap_le_maxLen w (0+n) 0 57 (by simp only [maxLen];omega)
 have hge:=grownCap_ge w (0+n) 0 57
 have hr:=Lib.run_append_grow_zeros (P:=prog) w 28 3 o.type 57 i0 _ .i64 .i64 underlying28 underlying3 hi hz0 none 0 0 [] (by simp [Builtin.firstCells]) n h0 (by rw [hz1];omega) (by omega) (by omega) (by rw [hz2];omega) (growslice_fits (by omega) (by rw [hz2];omega))
 have hrun:=pI (o:=o) (P:=prog) ho (by rw [ea,hy]) (by rw [eb,hu]) hr
 have hgr:∀b,w.grownBy (w.drew.alloc b) none:=fun b=>⟨rfl,rfl,rfl,(World.grownBy_alloc w.drew b none).size,(World.grownBy_alloc w.drew b none).block⟩
 refine ⟨_,_,none,hrun,hgr _,(fun _ h=>by cases h),Kp.of (hgr _),(fun m q v _ h4 h5=>⟨cell_grown (hgr _) h4,gU (hgr _) h4 h5⟩),fun m hm'=>?_,cL ⟨⟨_,_,_,rfl⟩,fun _ h=>by cases h⟩ hx fun w1 hw=>?_⟩
 ·simp only [blk,Option.some.injEq] at hm'
  subst hm'
  exact ⟨by simp,.inr (Nat.le_refl _)⟩
 ·refine ⟨w.heap.size,_,_,_,rfl,(hw.2 w.heap.size (by simp) (fun h=>by have:=hX _ h;omega)).trans (heap_alloc_new w.drew _),hcm,?_,fun u hu=>?_⟩
  ·simp only [Array.size_append,List.size_toArray,List.length_nil,size_zeroCells,Nat.zero_add] at hge ⊢
   rw [show (Value.agg #[.bool false,.slice none 0 0]).cells.size=2 from rfl]
   omega
  ·simp only [Array.toList_append,List.mem_append] at hu
   rcases hu with (hu | hu) | hu
   ·simp at hu
   ·exact nR pL (by decide) _ u hu
   ·exact nR pL (by decide) _ u hu
end
def Mg (n:Nat):List WP:=[Nz n,Nz n,uE 2 57,ah 2 57 (If (fun _=>0) 0) 0]
def Mh:List Step:=[bQ [0,.lit (.ci .i64 0)] oF (ak .lss),bQ [.lit .nl] [oL (.ci .i64 0)] (pK 28),bQ [.lit .nl] [oL (.ci .i64 0)] (aC 28),bQ [0,.lit (.ci .i64 0)] [oN 1] (ak .sub),bQ [1,.lit (.ci .i64 0)] oT (ak .gtr),bQ [.lit .nl] [oL (.ci .i64 0)] (pK 28),bQ [.lit .nl,.lit (.ci .i64 0)] [⟨.one (.lit (.nl)),[]⟩] (ec 28),.base ⟨0,[.lit .nl,1],[oS 2],.loose [] 1 0 (eF 28 3)⟩,bQ [.lit .nl] [oL (.ci .i64 0)] (aC 28),.base ⟨0,[2,.lit (.ci .i64 0)],[oS 3],.loose [] 1 0 (ec 28)⟩]
def Mi:List Out:=[⟨.one (.lit (.nl)),[]⟩,oN 0]
theorem Mj  (hn:n<=1000000) (h0:0<n):gw (ph (Mg n)) prog ⟨114,[.lit (.nl),0],[oS 3],false⟩:=nT Mi [oS 3] Mh func114 (by kernel_rfl) (lB (dp (op:=.lss) ad (cY (show decide (((n:Nat):Int)<0)=false from decide_eq_false (by omega)) (by simp))) (lB (uF underlying28) (lB (uG underlying28) (lB (bO ad rfl) (lB (eX ad) (lB (uF underlying28) (lB (Md (sz:=2) underlying28) (lB (Mf ad rfl) (lB (uG underlying28) (lB (Me (F:=(If (fun _=>0) 0)) underlying28 ad rfl) au))))))))))
  (aK [.lit (.nl),.fact 0 (.one (.i))] ⟨(fun _ h=>by cases h),fun _ _ h=>h▸fa _,trivial⟩) (fun _ _ _ h=>h)
def Mk (n:Nat):List WP:=[Nz n,Nz n]
def Ml:List Step:=[bQ [0,.lit (.ci .i64 0)] oF (ak .lss),bQ [.lit .nl] [oL (.ci .i64 0)] (pK 28),bQ [.lit .nl] [oL (.ci .i64 0)] (aC 28),bQ [0,.lit (.ci .i64 0)] [oN 1] (ak .sub),bQ [1,.lit (.ci .i64 0)] oF (ak .gtr)]
def Mm:List Out:=[⟨.one (.lit (.nl)),[]⟩,oN 0]
theorem Mn  (h0:n=0):aj (ph (Mk n)) prog ⟨114,[.lit (.nl),0],[⟨.one (.lit (.nl)),[]⟩],false⟩:=aV Mm [⟨.one (.lit (.nl)),[]⟩] Ml func114 (by kernel_rfl) (lB (dp (op:=.lss) ad (cY (show decide (((n:Nat):Int)<0)=false from decide_eq_false (by omega)) (by simp))) (lB (uF underlying28) (lB (uG underlying28) (lB (bO ad rfl) (lB (kC ad) au)))))
  (aK [.lit (.nl),.fact 0 (.one (.i))] ⟨(fun _ h=>by cases h),fun _ _ h=>h▸fa _,trivial⟩) (fun _ _ _ h=>h)
def cu (zz:Nat->Nat->Int) (ln:Nat->Nat):Nat->List Int
 | 0=>[]
 | j+1=>cu zz ln j ++ mk (ln j) (zz j)
theorem uH (zz:Nat->Nat->Int) (ln:Nat->Nat) (j:Nat):(cu zz ln (j+1)).length=(cu zz ln j).length+ln j:=by
 rw [cu,List.length_append,gI]
theorem Ag (A B:List Int) (i:Nat):ae (A ++ B) i=if i<A.length then ae A i else ae B (i-A.length):=by
 unfold ae
 simp only [List.getD_eq_getElem?_getD,List.getElem?_append]
 split <;> rfl
theorem Ah {w:World}{v:Value} (h:Rw sz F n w v):∃p n c,v = .slice p n c:=by
 obtain ⟨p,c,rfl,_⟩:=h;exact ⟨_,_,_,rfl⟩
section
variable {Φ:PH}{p q x m j i:Nat}{J:List Nat}
theorem Mo (hq:∀w v,Φ q w v->v = .int .i64 (n:Int)) (hx:Φ x=ah 2 57 F 0) (hn:n<=1000000:=by omega):aj Φ prog ⟨114,[.lit .nl,.fact q],[oS x],.cM J j⟩:=by
 rcases Nat.eq_zero_or_pos n with h | h
 ·intro X w vs hX ha
  refine (aW (outs:=[⟨.one (.lit .nl),[]⟩]) (Φ:=Φ) (ar:=[.lit .nl,.fact q]) (Mn (n:=n) h) ⟨rfl,hq,trivial⟩ ⟨⟨rfl,trivial⟩,trivial⟩ X w vs hX ha).mono fun e w' ⟨hg,us,he,h2⟩=>?_
  match us,h2 with
  | [u],h2=>
   have e':u = .slice none 0 0:=h2.1.1.1
   subst e'
   exact ⟨hg,_,he,cL ⟨⟨_,_,_,rfl⟩,fun _ h=>by cases h⟩ hx fun w1 _=>ah.nil _ _ _ _,fun g hg'=>by cases hg'⟩
 ·exact rP (Mj (n:=n) hn h) ⟨rfl,hq,trivial⟩ ⟨⟨rfl,⟨rfl,rfl,fun _ _ h=>by
   rw [hx]
   exact ah.to (sz:=2) (e:=57) (n:=0) (F:=If (fun _=>0) 0) h fun i w v hi=>absurd hi (by omega)⟩,trivial⟩,trivial⟩
theorem Mp (hn:(cu zz ln (i+1)).length<=1000000) (hp:∀w v,Φ p w v->ah 2 57 (If (ae (cu zz ln i)) k) (cu zz ln i).length w v) (hq:∀w v,Φ q w v->Rw 2 (If (zz i) k) (ln i) w v) (hx:Φ x=fun w v=>ah 2 57 (fun ι w v=>aE w v (ae (cu zz ln (i+1)) ι) k) (cu zz ln (i+1)).length w v):aj Φ prog ⟨0,[.fact p,.fact q],[oS x],.loose [] j 0 (eF 28 28)⟩:=by
 obtain ⟨i0,hi,hz0,hz1,hz2⟩:=info_parts infoI
 refine Mc (F':=fun ι w v=>aE w v (ae (cu zz ln (i+1)) ι) k) underlying28 hi hz0 hz1 hz2 rfl pL (fun _ _ _ _ g h=>aE.kp h g) hp hq (fun ι w v hι h=>?_) (fun ι w v hι h=>?_) (fun ι w l h=>aE.fQ h) (by rw [<- uH];exact hn) (by rw [hx,uH])
 ·rw [cu,Ag,if_pos hι];exact h
 ·rw [cu,Ag,if_neg (by omega),Nat.add_sub_cancel_left,eG,if_pos hι];exact h
end
def nU (zz:Nat->Nat->Int) (ln:Nat->Nat) (n k:Nat):List WP:=[Rw 1 (bS zz ln k) n,Nz n,Ni (((cu zz ln n).length:Nat):Int),ah 2 57 (If (ae (cu zz ln 0)) k) ((cu zz ln 0).length),Nz n,ah 2 57 (If (ae (cu zz ln n)) k) ((cu zz ln n).length)]
def Mq (zz:Nat->Nat->Int) (ln:Nat->Nat) (k:Nat) (j:Nat):List WP:=[Nz j,ah 2 57 (If (ae (cu zz ln j)) k) ((cu zz ln j).length),fun _ _=>True,fun w v=>Ptr 1 (fun w v=>∃s,v = .agg #[s]∧Rw 2 (If (zz j) k) (ln j) w s) w v,Rw 2 (If (zz j) k) (ln j),fun w v=>ah 2 57 (fun ι w v=>aE w v ((ae (cu zz ln (j+1))) ι) k) (cu zz ln (j+1)).length w v,Nz (j+1)]
def Ai:bf:=⟨[0,2,3,9,10,11,12,23,24,25,26],[(.slot 27,.i),(.slot 6,.s)],[(.one 0,6),(.one 1,.bB [1] 7),(.one 1,.lo 1)],[.closed (.one (.ci .i64 0)),.frm 3,.frm 0],6,[(7,5)]⟩
def Aj:List Step:=[bQ [6,4] oT (ak .lss),bQ [0,6] [oP 9] (aH 59),bQ [9] [oS 10] (aI 28),.base ⟨0,[7,10],[oS 11],.loose [] 1 0 (eF 28 28)⟩,bQ [6,.lit (.ci .i64 1)] [oN 12] (ak .add)]
def Mr:List Step:=[bQ [6,4] oF (ak .lss)]
def Ms (zz:Nat->Nat->Int) (ln:Nat->Nat) (k:Nat) (j:Nat):List WP:=[Nz j,Ni (((cu zz ln j).length:Nat):Int),fun w v=>Ptr 1 (fun w v=>∃s,v = .agg #[s]∧Rw 2 (If (zz j) k) (ln j) w s) w v,Rw 2 (If (zz j) k) (ln j),Nz (ln j),Ni (((cu zz ln (j+1)).length:Nat):Int),Nz (j+1)]
def Ak:bf:=⟨[0,2,9,10],[(.slot 11,.i),(.slot 3,.i)],[(.one 0,6),(.one 1,7)],[.closed (.one (.ci .i64 0)),.closed (.one (.ci .i64 0))],6,[(7,2)]⟩
def Am:List Step:=[bQ [6,1] oT (ak .lss),bQ [0,6] [oP 8] (aH 59),bQ [8] [oS 9] (aI 28),bQ [9] [oN 10] (aC 28),bQ [7,10] [oN 11] (ak .add),bQ [11,.lit (.ci .i64 0)] oF (ak .lss),bQ [6,.lit (.ci .i64 1)] [oN 12] (ak .add)]
def Mt:List Step:=[bQ [6,1] oF (ak .lss)]
def Mu:List Step:=[bQ [0] [oN 1] (aC 59),.loop Ak [(Am,[.frm 12,.frm 11])] Mt,.base ⟨114,[.lit .nl,2],[oS 3],.cM [] 1⟩,bQ [0] [oN 4] (aC 59),.loop Ai [(Aj,[.frm 12,.frm 11,.frm 0])] Mr]
def Mv:List Out:=[oS 0]
theorem Mw  (hn:n<=1000) (hs:∀j,j<=n->(cu zz ln j).length<=1000000):gw (ph (nU zz ln n k)) prog ⟨90,[0],[oS 5],false⟩:=by
 have hsn:=hs n (Nat.le_refl n)
 exact nT Mv [oS 5] Mu func90 (by kernel_rfl) (lB (aJ (F:=(bS zz ln k)) underlying59 ad rfl) (bk (counted n (fun j=>ph (nU zz ln n k ++ Ms zz ln k j)) (fun _=>0) (fun j p hp=>bm (show p<(nU zz ln n k).length from hp)) ⟨fun _=>rfl,fun _=>rfl,trivial⟩ (fun j hj=>by
   have hs1:=hs (j+1) (by omega);have hs0:=hs j (by omega)
   exact ⟨(Am,[.frm 12,.frm 11]),rfl,⟨ad,ad,trivial⟩,(lB (bT ad ad) (lB (bz (i:=j) (F:=(bS zz ln k)) underlying59 ad ad rfl) (lB (nV ad (fun _ _ h=>Ah h) rfl) (lB (aJ (F:=(If (zz j) k)) underlying28 ad rfl) (lB (fj ad ad (hc:=(by rw [uH];omega)) rfl) (lB (dp (op:=.lss) ad (cY (show decide ((((cu zz ln (j+1)).length:Nat):Int)<0)=false from decide_eq_false (by omega)) (by simp))) (lB (ce ad rfl) au)))))))⟩) (lB (tlF ad ad) au)
   (fun q hq w v h=>by
    simp only [Ak,List.mem_cons,List.not_mem_nil,or_false] at hq
    rcases hq with rfl
    ·exact (fun h=>h) h)) (lB (Mo (F:=(If (ae (cu zz ln 0)) k)) ad rfl) (lB (aJ (F:=(bS zz ln k)) underlying59 ad rfl) (bk (counted n (fun j=>ph (nU zz ln n k ++ Mq zz ln k j)) (fun _=>0) (fun j p hp=>bm (show p<(nU zz ln n k).length from hp)) ⟨fun _=>rfl,ad,aP,trivial⟩ (fun j hj=>by
   skip
   exact ⟨(Aj,[.frm 12,.frm 11,.frm 0]),rfl,⟨ad,ad,aP,trivial⟩,(lB (bT ad ad) (lB (bz (i:=j) (F:=(bS zz ln k)) underlying59 ad ad rfl) (lB (nV ad (fun _ _ h=>Ah h) rfl) (lB (Mp (hs (j+1) (by omega)) ad ad rfl) (lB (ce ad rfl) au)))))⟩) (lB (tlF ad ad) au)
   (fun q hq w v h=>by
    simp only [Ai,List.mem_cons,List.not_mem_nil,or_false] at hq
    rcases hq with rfl
    ·exact (fun h=>h) h)) au)))))
  (aK [.fact 0 (.one (.s))] ⟨Rw.Is 1 (bS zz ln k) n,trivial⟩) bg
theorem concat  (hn:n<=1000) (hs:∀j,j<=n->(cu zz ln j).length<=1000000):aj (ph (nU zz ln n k)) prog ⟨90,[0],[oS 5],false⟩:=(Mw hn hs).call
end Go.Proofs.YtomamliepbhegaaGreat.Sym
