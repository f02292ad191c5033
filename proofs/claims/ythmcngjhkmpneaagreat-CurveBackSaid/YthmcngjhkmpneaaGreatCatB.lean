/- slices.Grow of nothing; slices.Concat of polynomials. -/
import Derived.Test.YthmcngjhkmpneaaGreatCatA
import Derived.Test.YthmcngjhkmpneaaGreatDivT
import Derived.Test.YthmcngjhkmpneaaGreatPolL
set_option maxRecDepth 100000
namespace Go.Proofs.YthmcngjhkmpneaaGreat.Sym
open Go.RowKit
def oB (sz:Nat) (e:TypeId) (w:World) (v:Value):Prop:=∃g n cap cur,v = .slice (some ⟨g,0,none⟩) n cap∧w.heap[g]?=some (.cells cur e (0,0))∧cap<=maxLen∧cur.size=cap*sz∧∀x,x ∈ cur.toList->bV x
def jT (T:TypeId):Op->Option (List Operand)
 | .call ⟨.builtin .cap,args,ts⟩=>if ts = #[T] then some args.toList else none
 | _=>none
section
variable {P:Program}{Φ:PH}{p x j:Nat}
theorem oC {T e:TypeId} (hT:P.underlying T=some (.slice e)):ai Φ P ⟨0,[.lit .nl],[oL (.ci .i64 0)],.quiet (jT T)⟩:=fun X w ac o xs _ hm ha=>by
 unfold jT at hm
 split at hm
 case h_2=>cases hm
 rename_i args ts ho
 split at hm
 case isFalse=>cases hm
 rename_i hts
 subst hts
 simp only [Option.some.injEq] at hm
 subst hm
 match hl:args.toList,ha with
 | [y],ha=>
  have hv:ac.eval y = .slice none 0 0:=ha.1
  have hargs:args = #[y]:=by apply Array.ext';simpa using hl
  subst hargs
  refine ⟨.int .i64 0,w,?_,aQ w none,⟨⟨⟨rfl,fun _ h=>by cases h⟩,fun r hr=>by cases hr⟩,trivial⟩⟩
  unfold execOp
  simp [ho,resolve,invoke,builtin,Builtin.cap_,run_underlying hT,hv,goInt]
theorem oE {T e:TypeId} (hT:P.underlying T=some (.slice e)):ai Φ P ⟨0,[.lit .nl],[oL (.ci .i64 0)],.quiet (aI T)⟩:=fun X w ac o xs _ hm ha=>by
 unfold aI at hm
 split at hm
 case h_2=>cases hm
 rename_i args ts ho
 split at hm
 case isFalse=>cases hm
 rename_i hts
 subst hts
 simp only [Option.some.injEq] at hm
 subst hm
 match hl:args.toList,ha with
 | [y],ha=>
  have hv:ac.eval y = .slice none 0 0:=ha.1
  have hargs:args = #[y]:=by apply Array.ext';simpa using hl
  subst hargs
  refine ⟨.int .i64 0,w,?_,aQ w none,⟨⟨⟨rfl,fun _ h=>by cases h⟩,fun r hr=>by cases hr⟩,trivial⟩⟩
  unfold execOp
  simp [ho,resolve,invoke,builtin,Builtin.len_,run_underlying hT,hv,goInt]
theorem sR {T:TypeId}{o:Op}{xs:List Operand} (h:dX T o=some xs):∃y z,o = .slice T y none (some z) none∧xs = [y,z]:=by
 unfold dX at h
 split at h
 case h_2=>cases h
 rename_i t y z
 split at h
 case isFalse=>cases h
 rename_i ht
 subst ht
 simp only [Option.some.injEq] at h
 exact ⟨y,z,rfl,h.symm⟩
theorem Ac {T e:TypeId}{sz:Nat} (hT:P.underlying T=some (.slice e)) (hz:dg P e=some sz):ai Φ P ⟨0,[.lit .nl,.lit (.ci .i64 0)],[⟨.one (.lit .nl),[]⟩],.quiet (dX T)⟩:=fun X w ac o xs _ hm ha=>by
 obtain ⟨y,z,ho,rfl⟩:=sR hm
 have hv:ac.eval y = .slice none 0 0:=ha.1
 have hi2:ac.eval z = .int .i64 0:=ha.2.1
 refine ⟨.slice none 0 0,w,?_,aQ w none,⟨⟨⟨rfl,fun _ h=>by cases h⟩,fun r hr=>by cases hr⟩,trivial⟩⟩
 unfold execOp
 simp only [ho,Option.map_none,Option.map_some,hv,hi2]
 simp [Instr.sliceAt,Instr.slice,run_underlying hT,Instr.sliceBounds,run_sliceBound (P:=P) w .i64 (0:Int) 0 .sliceAcap (by omega) (by omega),run_sizeOf hz]
theorem Ad {T e:TypeId}{sz:Nat}{F:PH} (hT:P.underlying T=some (.slice e)) (hz:dg P e=some sz) (hp:∀w v,Φ p w v->oB sz e w v) (hx:Φ x=am sz e F 0):ai Φ P ⟨0,[.fact p,.lit (.ci .i64 0)],[oS x],.loose [] j 0 (dX T)⟩:=fun X L w ac o xs hX hL hLX hm ha hb _=>by
 obtain ⟨y,z,ho,rfl⟩:=sR hm
 obtain ⟨g,n,cap,cur,hv,hh,hc,hs,hn⟩:=hp _ _ (ha.1 w (Off.refl _ _))
 have hi2:ac.eval z = .int .i64 0:=ha.2.1
 have hLg:L g:=hb y g rfl (by rw [hv];rfl)
 refine ⟨.slice (some ⟨g,0,none⟩) 0 cap,w,none,?_,aQ w none,(fun _ h=>by cases h),Kp.refl _,(fun m k v _ h4 h5=>⟨h4,h5⟩),fun m hm'=>?_,cH ⟨⟨_,_,_,rfl⟩,fun _ h=>by cases h⟩ hx fun w1 hw=>?_⟩
 ·unfold execOp
  have ha0:((some (⟨g,0,none⟩:Addr)).map fun y=>y.add 0)=some ⟨g,0,none⟩:=by simp [Addr.add_zero']
  simp only [ho,Option.map_none,Option.map_some,hv,hi2]
  simp [Instr.sliceAt,Instr.slice,run_underlying hT,Instr.sliceBounds,run_sliceBound (P:=P) w .i64 (0:Int) cap .sliceAcap (by omega) (by omega),run_sizeOf hz,Addr.add_zero']
 ·simp only [blk,Option.some.injEq] at hm'
  subst hm'
  exact ⟨hL g hLg,.inl hLg⟩
 ·have hw1:w1.heap[g]?=some (.cells cur e (0,0)):=by
   rw [hw.2 g (hL g hLg) (hLX g hLg)];exact hh
  refine ⟨[],rfl,(fun _ h=>by cases h),⟨⟨by simp,.inr ⟨g,cap,cur,rfl,Nat.zero_le _,hw1,Nat.zero_le _,hc,hs,by simp⟩⟩,fun g' cur' e' p' hg' hh' u hu=>?_⟩,fun i r h=>by simp at h⟩
  simp only [Value.ownBlock,Option.some.injEq] at hg'
  subst hg'
  rw [hw1] at hh'
  cases hh'
  exact hn u hu
end
section
variable {Φ:PH}{p q x n m k j:Nat}{F:PH}{J:List Nat}
theorem Ae (hq:∀w v,Φ q w v->v = .int .i64 (n:Int)) (h0:0<n) (hn:n<=1000000) (hx:Φ x=oB 2 51):ai Φ Tryz.prog ⟨0,[.lit .nl,.fact q],[oS x],.loose [] j 0 (cU 28 3)⟩:=fun X L w ac o ys hX hL hLX hm ha hb _=>by
 obtain ⟨y,u,hys⟩:∃y u,ys.map ac.eval = [y,u]:=by
  match ys.map ac.eval,ha with
  | [y,u],_=>exact ⟨y,u,rfl⟩
 rw [show List.map ac.eval ys = [y,u] from hys] at ha
 obtain ⟨a,b,ho,rfl,ea,eb⟩:=oz hm hys
 have hy:y = .slice none 0 0:=ha.1
 have hu:=hq _ _ (ha.2.1 w (Off.refl _ _))
 obtain ⟨i0,hi,hz0,hz1,hz2⟩:=info_parts infoI
 have hcm:grownCap w (0+n) 0 51<=maxLen:=grownCap_le_maxLen w (0+n) 0 51 (by simp only [maxLen];omega)
 have hge:=grownCap_ge w (0+n) 0 51
 have hr:=Lib.run_append_grow_zeros (P:=Tryz.prog) w 28 3 o.type 51 i0 _ .i64 .i64 Tryz.underlying28 Tryz.underlying3 hi hz0 none 0 0 [] (by simp [Builtin.firstCells]) n h0 (by rw [hz1];omega) (by omega) (by omega) (by rw [hz2];omega) (growslice_fits (by omega) (by rw [hz2];omega))
 have hrun:=l7 (o:=o) (P:=Tryz.prog) ho (by rw [ea,hy]) (by rw [eb,hu]) hr
 have hgr:∀b,w.grownBy (w.drew.alloc b) none:=fun b=>⟨rfl,rfl,rfl,(World.grownBy_alloc w.drew b none).size,(World.grownBy_alloc w.drew b none).block⟩
 refine ⟨_,_,none,hrun,hgr _,(fun _ h=>by cases h),Kp.of (hgr _),(fun m q v _ h4 h5=>⟨cell_grown (hgr _) h4,fa (hgr _) h4 h5⟩),fun m hm'=>?_,cH ⟨⟨_,_,_,rfl⟩,fun _ h=>by cases h⟩ hx fun w1 hw=>?_⟩
 ·simp only [blk,Option.some.injEq] at hm'
  subst hm'
  exact ⟨by simp,.inr (Nat.le_refl _)⟩
 ·refine ⟨w.heap.size,_,_,_,rfl,(hw.2 w.heap.size (by simp) (fun h=>by have:=hX _ h;omega)).trans (heap_alloc_new w.drew _),hcm,?_,fun u hu=>?_⟩
  ·simp only [Array.size_append,List.size_toArray,List.length_nil,size_zeroCells,Nat.zero_add] at hge ⊢
   rw [show (Value.agg #[.bool false,.slice none 0 0]).cells.size=2 from rfl]
   omega
  ·simp only [Array.toList_append,List.mem_append] at hu
   rcases hu with (hu | hu) | hu
   ·simp at hu
   ·exact ja jU (by decide) _ u hu
   ·exact ja jU (by decide) _ u hu
end
def Af (n:Nat):List WP:=[Nz n,Nz n,oB 2 51,am 2 51 (If (fun _=>0) 0) 0]
def Ag:List Step:=[bQ [.fact 0,.lit (.ci .i64 0)] oF (au .lss),
   bQ [.lit .nl] [oL (.ci .i64 0)] (jT 28),
   bQ [.lit .nl] [oL (.ci .i64 0)] (aI 28),
   bQ [.fact 0,.lit (.ci .i64 0)] [oN 1] (au .sub),
   bQ [.fact 1,.lit (.ci .i64 0)] oT (au .gtr),
   bQ [.lit .nl] [oL (.ci .i64 0)] (jT 28),
   bQ [.lit .nl,.lit (.ci .i64 0)] [⟨.one (.lit (.nl)),[]⟩] (dX 28),
   .base ⟨0,[.lit .nl,.fact 1],[oS 2],.loose [] 1 0 (cU 28 3)⟩,
   bQ [.lit .nl] [oL (.ci .i64 0)] (aI 28),
   .base ⟨0,[.fact 2,.lit (.ci .i64 0)],[oS 3],.loose [] 1 0 (dX 28)⟩]
def Ah:List Out:=[⟨.one (.lit (.nl)),[]⟩,oN 0]
theorem Ai {n:Nat} (hn:n<=1000000) (h0:0<n):er (ph (Af n)) Tryz.prog ⟨164,[.lit (.nl),.fact 0],[oS 3],false⟩:=by
 skip
 exact jV Ah [oS 3] Ag Tryz.func164 (by kernel_rfl)
  (lB (cn (op:=.lss) ad (cw (show decide (((n:Nat):Int)<0)=false from decide_eq_false (by omega)) (by simp)))
   (lB (oC Tryz.underlying28)
   (lB (oE Tryz.underlying28)
   (lB (cI ad (by omega) rfl (by omega) (by omega))
   (lB (fA ad)
   (lB (oC Tryz.underlying28)
   (lB (Ac (sz:=2) Tryz.underlying28 (by kernel_rfl))
   (lB (Ae ad (by omega) (by omega) rfl)
   (lB (oE Tryz.underlying28)
   (lB (Ad (F:=(If (fun _=>0) 0)) Tryz.underlying28 (by kernel_rfl) ad rfl)
   aC))))))))))
  (aK [.lit (.nl),.fact 0 (.one (.i))] ⟨(fun _ h=>by cases h),fun _ _ h=>h▸dl _,trivial⟩) (fun _ _ _ h=>h)
def Aj (n:Nat):List WP:=[Nz n,Nz n]
def Ak:List Step:=[bQ [.fact 0,.lit (.ci .i64 0)] oF (au .lss),
   bQ [.lit .nl] [oL (.ci .i64 0)] (jT 28),
   bQ [.lit .nl] [oL (.ci .i64 0)] (aI 28),
   bQ [.fact 0,.lit (.ci .i64 0)] [oN 1] (au .sub),
   bQ [.fact 1,.lit (.ci .i64 0)] oF (au .gtr)]
def Am:List Out:=[⟨.one (.lit (.nl)),[]⟩,oN 0]
theorem An {n:Nat} (h0:n=0):ai (ph (Aj n)) Tryz.prog ⟨164,[.lit (.nl),.fact 0],[⟨.one (.lit (.nl)),[]⟩],false⟩:=by
 skip
 exact bg Am [⟨.one (.lit (.nl)),[]⟩] Ak Tryz.func164 (by kernel_rfl)
  (lB (cn (op:=.lss) ad (cw (show decide (((n:Nat):Int)<0)=false from decide_eq_false (by omega)) (by simp)))
   (lB (oC Tryz.underlying28)
   (lB (oE Tryz.underlying28)
   (lB (cI ad (by omega) rfl (by omega) (by omega))
   (lB (l9 ad)
   aC)))))
  (aK [.lit (.nl),.fact 0 (.one (.i))] ⟨(fun _ h=>by cases h),fun _ _ h=>h▸dl _,trivial⟩) (fun _ _ _ h=>h)
def aL (zz:Nat->Nat->Int) (ln:Nat->Nat):Nat->List Int
 | 0=>[]
 | j+1=>aL zz ln j ++ mk (ln j) (zz j)
theorem mc (zz:Nat->Nat->Int) (ln:Nat->Nat) (j:Nat):(aL zz ln (j+1)).length=(aL zz ln j).length+ln j:=by
 rw [aL,List.length_append,eM]
theorem me (A B:List Int) (i:Nat):an (A ++ B) i=if i<A.length then an A i else an B (i-A.length):=by
 unfold an
 simp only [List.getD_eq_getElem?_getD,List.getElem?_append]
 split <;> rfl
theorem mf {sz n:Nat}{F:PH}{w:World}{v:Value} (h:Rw sz F n w v):∃p n c,v = .slice p n c:=by
 obtain ⟨p,c,rfl,_⟩:=h;exact ⟨_,_,_,rfl⟩
section
variable {Φ:PH}{p q x n m k j i:Nat}{F:PH}{J:List Nat}{zz:Nat->Nat->Int}{ln:Nat->Nat}
theorem Ao (hq:∀w v,Φ q w v->v = .int .i64 (n:Int)) (hx:Φ x=am 2 51 F 0) (hn:n<=1000000):ai Φ Tryz.prog ⟨164,[.lit .nl,.fact q],[oS x],.et J j⟩:=by
 rcases Nat.eq_zero_or_pos n with h | h
 ·intro X w vs hX ha
  refine (bi (outs:=[⟨.one (.lit .nl),[]⟩]) (Φ:=Φ) (ar:=[.lit .nl,.fact q]) (An (n:=n) h) ⟨rfl,hq,trivial⟩ ⟨⟨rfl,trivial⟩,trivial⟩ X w vs hX ha).mono fun e w' ⟨hg,us,he,h2⟩=>?_
  match us,h2 with
  | [u],h2=>
   have e':u = .slice none 0 0:=h2.1.1.1
   subst e'
   exact ⟨hg,_,he,cH ⟨⟨_,_,_,rfl⟩,fun _ h=>by cases h⟩ hx fun w1 _=>am.nil _ _ _ _,fun g hg'=>by cases hg'⟩
 ·exact jW (Ai (n:=n) hn h) ⟨rfl,hq,trivial⟩ ⟨⟨rfl,⟨rfl,rfl,fun _ _ h=>by
   rw [hx]
   exact am.to (sz:=2) (e:=51) (n:=0) (F:=If (fun _=>0) 0) h fun i w v hi=>absurd hi (by omega)⟩,trivial⟩,trivial⟩
theorem Aq (hn:(aL zz ln (i+1)).length<=1000000) (hp:∀w v,Φ p w v->am 2 51 (If (an (aL zz ln i)) k) (aL zz ln i).length w v) (hq:∀w v,Φ q w v->Rw 2 (If (zz i) k) (ln i) w v) (hx:Φ x=fun w v=>am 2 51 (fun ι w v=>aj w v (an (aL zz ln (i+1)) ι) k) (aL zz ln (i+1)).length w v):ai Φ Tryz.prog ⟨0,[.fact p,.fact q],[oS x],.loose [] j 0 (cU 28 28)⟩:=by
 obtain ⟨i0,hi,hz0,hz1,hz2⟩:=info_parts infoI
 refine ow (F':=fun ι w v=>aj w v (an (aL zz ln (i+1)) ι) k) Tryz.underlying28 hi hz0 hz1 hz2 rfl (by omega) (by omega) jU (fun _ _ _ _ g h=>aj.kp h g) hp hq (fun ι w v hι h=>?_) (fun ι w v hι h=>?_) (fun ι w l h=>aj.dm h) (by rw [<- mc];exact hn) (by rw [hx,mc])
 ·rw [aL,me,if_pos hι];exact h
 ·rw [aL,me,if_neg (by omega),Nat.add_sub_cancel_left,eu,if_pos hι];exact h
end
def jX (zz:Nat->Nat->Int) (ln:Nat->Nat) (n k:Nat):List WP:=[Rw 1 (fV zz ln k) n,Nz n,Ni (((aL zz ln n).length:Nat):Int),am 2 51 (If (an (aL zz ln 0)) k) ((aL zz ln 0).length),Nz n,am 2 51 (If (an (aL zz ln n)) k) ((aL zz ln n).length)]
def Ar (zz:Nat->Nat->Int) (ln:Nat->Nat) (k:Nat) (j:Nat):List WP:=[Nz j,am 2 51 (If (an (aL zz ln j)) k) ((aL zz ln j).length),fun _ _=>True,fun w v=>Ptr 1 (fun w v=>∃s,v = .agg #[s]∧Rw 2 (If (zz j) k) (ln j) w s) w v,Rw 2 (If (zz j) k) (ln j),fun w v=>am 2 51 (fun ι w v=>aj w v ((an (aL zz ln (j+1))) ι) k) (aL zz ln (j+1)).length w v,Nz (j+1)]
def sU:bj:=⟨[0,2,3,9,10,11,12,23,24,25,26],[(.slot 27,.i),(.slot 6,.s)],[(.one 0,6),(.one 1,.bZ [1] 7),(.one 1,.lo 1)],[.closed (.one (.ci .i64 0)),.frm 3,.frm 0],6,[(7,5)]⟩
def sV:List Step:=[bQ [.fact 6,.fact 4] oT (au .lss),
   bQ [.fact 0,.fact 6] [oP 9] (aO 90),
   bQ [.fact 9] [oS 10] (aS 28),
   .base ⟨0,[.fact 7,.fact 10],[oS 11],.loose [] 1 0 (cU 28 28)⟩,
   bQ [.fact 6,.lit (.ci .i64 1)] [oN 12] (au .add)]
def As:List Step:=[bQ [.fact 6,.fact 4] oF (au .lss)]
def Au (zz:Nat->Nat->Int) (ln:Nat->Nat) (k:Nat) (j:Nat):List WP:=[Nz j,Ni (((aL zz ln j).length:Nat):Int),fun w v=>Ptr 1 (fun w v=>∃s,v = .agg #[s]∧Rw 2 (If (zz j) k) (ln j) w s) w v,Rw 2 (If (zz j) k) (ln j),Nz (ln j),Ni (((aL zz ln (j+1)).length:Nat):Int),Nz (j+1)]
def sW:bj:=⟨[0,2,9,10],[(.slot 11,.i),(.slot 3,.i)],[(.one 0,6),(.one 1,7)],[.closed (.one (.ci .i64 0)),.closed (.one (.ci .i64 0))],6,[(7,2)]⟩
def sZ:List Step:=[bQ [.fact 6,.fact 1] oT (au .lss),
   bQ [.fact 0,.fact 6] [oP 8] (aO 90),
   bQ [.fact 8] [oS 9] (aS 28),
   bQ [.fact 9] [oN 10] (aI 28),
   bQ [.fact 7,.fact 10] [oN 11] (au .add),
   bQ [.fact 11,.lit (.ci .i64 0)] oF (au .lss),
   bQ [.fact 6,.lit (.ci .i64 1)] [oN 12] (au .add)]
def Av:List Step:=[bQ [.fact 6,.fact 1] oF (au .lss)]
def Aw:List Step:=[bQ [.fact 0] [oN 1] (aI 90),
   .loop sW [(sZ,[.frm 12,.frm 11])] Av,
   .base ⟨164,[.lit .nl,.fact 2],[oS 3],.et [] 1⟩,
   bQ [.fact 0] [oN 4] (aI 90),
   .loop sU [(sV,[.frm 12,.frm 11,.frm 0])] As]
def AA:List Out:=[oS 0]
theorem AB {zz:Nat->Nat->Int}{ln:Nat->Nat}{n k:Nat} (hn:n<=1000) (hs:∀j,j<=n->(aL zz ln j).length<=1000000):er (ph (jX zz ln n k)) Tryz.prog ⟨127,[.fact 0],[oS 5],false⟩:=by
 have hsn:=hs n (Nat.le_refl n)
 exact jV AA [oS 5] Aw Tryz.func127 (by kernel_rfl)
  (lB (a9 (F:=(fV zz ln k)) Tryz.underlying90 ad rfl)
   (bN (counted n (fun j=>ph (jX zz ln n k ++ Au zz ln k j)) (fun _=>0) (fun j p hp=>bO (show p<(jX zz ln n k).length from hp)) ⟨fun _=>rfl,fun _=>rfl,trivial⟩ (fun j hj=>by
   have hs1:=hs (j+1) (by omega);have hs0:=hs j (by omega)
   exact ⟨(sZ,[.frm 12,.frm 11]),rfl,⟨ad,ad,trivial⟩,(lB (cA ad ad)
   (lB (b6 (i:=j) (F:=(fV zz ln k)) Tryz.underlying90 (by kernel_rfl) ad ad (by omega) rfl)
   (lB (ta (by kernel_rfl) ad (fun _ _ h=>mf h) rfl)
   (lB (a9 (F:=(If (zz j) k)) Tryz.underlying28 ad rfl)
   (lB (mg ad ad (by rw [mc];omega) rfl (by omega) (by omega))
   (lB (cn (op:=.lss) ad (cw (show decide ((((aL zz ln (j+1)).length:Nat):Int)<0)=false from decide_eq_false (by omega)) (by simp)))
   (lB (cO ad (by omega) rfl (by omega) (by omega))
   aC)))))))⟩)
   (lB (tlF ad ad)
   aC)
   (fun q hq w v h=>by
    simp only [sW,List.mem_cons,List.not_mem_nil,or_false] at hq
    rcases hq with rfl
    ·exact (fun h=>h) h)) (lB (Ao (F:=(If (an (aL zz ln 0)) k)) ad rfl (by omega))
   (lB (a9 (F:=(fV zz ln k)) Tryz.underlying90 ad rfl)
   (bN (counted n (fun j=>ph (jX zz ln n k ++ Ar zz ln k j)) (fun _=>0) (fun j p hp=>bO (show p<(jX zz ln n k).length from hp)) ⟨fun _=>rfl,ad,bp,trivial⟩ (fun j hj=>by
   skip
   exact ⟨(sV,[.frm 12,.frm 11,.frm 0]),rfl,⟨ad,ad,bp,trivial⟩,(lB (cA ad ad)
   (lB (b6 (i:=j) (F:=(fV zz ln k)) Tryz.underlying90 (by kernel_rfl) ad ad (by omega) rfl)
   (lB (ta (by kernel_rfl) ad (fun _ _ h=>mf h) rfl)
   (lB (Aq (hs (j+1) (by omega)) ad ad rfl)
   (lB (cO ad (by omega) rfl (by omega) (by omega))
   aC)))))⟩)
   (lB (tlF ad ad)
   aC)
   (fun q hq w v h=>by
    simp only [sU,List.mem_cons,List.not_mem_nil,or_false] at hq
    rcases hq with rfl
    ·exact (fun h=>h) h)) aC)))))
  (aK [.fact 0 (.one (.s))] ⟨Rw.Is 1 (fV zz ln k) n,trivial⟩) bh
end Go.Proofs.YthmcngjhkmpneaaGreat.Sym
