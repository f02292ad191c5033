/- A rational that came in; the variables that a row of layer 4 lists. Contracts of chapter 4 and of the reference's rationals as calls of the symbolic walk. Ratio's greatest of three. Ratio's greatest and sum of any number: their loops by what holds at each round's head. -/
import Derived.Test.YthmcngjhkmpneaaGreatRowKit
import Derived.Test.YthmcngjhkmpneaaGreatRefV
import Derived.Lib.SmallJoins
import Derived.Lay
import Derived.MakeChecks
import Derived.Stop.Joined
import Derived.SevenTiedAt
namespace Go.Proofs.YthmcngjhkmpneaaGreat
open Go.RowKit
open Go.ChangeShapes Go.WideShapes Go.ChangeAt Go.RowKit
theorem Tryz.cells24:Tryz.prog.cellsOf 51=2:=by kernel_rfl
theorem Tryz.cells4:Tryz.prog.cellsOf 4=1:=by kernel_rfl
theorem Tryz.cells22:Tryz.prog.cellsOf 49=1:=by kernel_rfl
section
variable {H:Type}{enc:TypeId×Value->H}
set_option maxRecDepth 100000 in
theorem mz {W:World}{base:Nat}{held:Bool}{x y:Value}{fuel:Nat}{z:DataW H×List MemPlace}
  (h:DataW.trod enc Tryz.prog W base (fun _=>true) held fuel 51 [x,y]=some z):∃b xs,x = .bool b∧Sl W .u32 y xs∧All 4294967296 xs:=by
 obtain ⟨y0,y1,n,-,-,h0,h1⟩:=trod_struct2 Tryz.underlying51 h
 simp only [Tryz.cells4,Tryz.cells22,List.drop_zero,List.take_succ_cons,List.take_zero,List.drop_succ_cons] at h0 h1
 obtain ⟨b,e0,-⟩:=DataW.trod_bool Tryz.underlying4 h0
 obtain rfl:x = .bool b:=by simpa using e0
 obtain ⟨xs,h2,h3⟩:=Ox (W:=W) Tryz.underlying49 Tryz.underlying152 (by kernel_rfl) h1
 exact ⟨b,xs,rfl,h2,h3⟩
end
theorem Sd {v:Value}{z:Int}{t:Rat}{i:Nat}{w:World} (hz:aj w v z i) (hk:i<=200000) (ht:(z:Rat)=t):Calls Tryz.prog 85 #[v] w (gS w t (i+2)):=ht▸Se hz hk
end Go.Proofs.YthmcngjhkmpneaaGreat
namespace Go.Proofs.YthmcngjhkmpneaaGreat.Sym
open Go.RowKit
section
variable {Φ:PH}
theorem Qz {p x x1 x2 i:Nat}{z:Int}{t:Rat} (hp:∀w v,Φ p w v->aj w v z i) (hx:Φ x=fun w v=>bk w v t (i+2)) (hx1:Φ x1=Nw t.num (i+2)) (hx2:Φ x2=Nw (t.den:Int) (i+2)) (hk:i<=200000) (ht:(z:Rat)=t):ai Φ Tryz.prog ⟨85,[.fact p],[⟨qS,[(0,0,x),(0,2,x1),(2,2,x2)]⟩],false⟩:=
 da fun _ _ _ h0=>(Sd (hp _ _ (get h0)) hk ht).mono fun _ _ h=>pp hx hx1 hx2 h
theorem BL {p x x1 x2 i:Nat}{z:Rat}{t:Rat} (hp:∀w v,Φ p w v->bS w v z i) (hx:Φ x=fun w v=>bk w v t (i+2)) (hx1:Φ x1=Nw t.num (i+2)) (hx2:Φ x2=Nw (t.den:Int) (i+2)) (hk:i<=100000) (ht : -z=t):ai Φ Tryz.prog ⟨79,[.fact p],[⟨qS,[(0,0,x),(0,2,x1),(2,2,x2)]⟩],false⟩:=
 da fun _ _ _ h0=>(MP (hp _ _ (get h0)) hk ht).mono fun _ _ h=>pp hx hx1 hx2 h
theorem CE {p q x x1 x2 i j:Nat}{z:Rat}{y:Rat}{t:Rat} (hp:∀w v,Φ p w v->bS w v z i) (hq:∀w v,Φ q w v->bS w v y j) (hx:Φ x=fun w v=>bk w v t (2*(i+j)+8)) (hx1:Φ x1=Nw t.num (2*(i+j)+8)) (hx2:Φ x2=Nw (t.den:Int) (2*(i+j)+8)) (hk:i+j<=50000) (h0':y≠0) (ht:z / y=t):ai Φ Tryz.prog ⟨87,[.fact p,.fact q],[⟨qS,[(0,0,x),(0,2,x1),(2,2,x2)]⟩,oL (.ci .i64 0)],true⟩:=
 dj fun _ _ _ _ h0 h1=>(Sf (hp _ _ (get h0)) (hq _ _ (get h1)) hk h0' ht).mono fun _ _ h=>Oo hx hx1 hx2 h
theorem E9 {p q i j:Nat}{z:Rat}{y:Rat}{r:Bool} (hp:∀w v,Φ p w v->bk w v z i) (hq:∀w v,Φ q w v->bk w v y j) (he:z=y) (hr:true=r):ai Φ Tryz.prog ⟨41,[.fact p,.fact q],[oL (.cb r)],false⟩:=
 dj fun _ _ _ _ h0 h1=>(hr▸Sg (hp _ _ (get h0)) (hq _ _ (get h1)) he).mono fun _ _ h=>nt h
end
section
variable {Φ:PH}
theorem Arr.is {sz n:Nat}{F:PH}{w:World}{v:Value} (h:Arr sz F n w v):(aR.one .s).is v:=by
 obtain ⟨p,c,rfl,_⟩:=h
 exact ⟨⟨_,_,_,rfl⟩,fun _ h=>by cases h⟩
theorem Sj {p q x i j:Nat}{z y:Rat}{t:Int} (hp:∀w v,Φ p w v->bS w v z i) (hq:∀w v,Φ q w v->bS w v y j) (hx:Φ x=Ni t) (hi:i+j<=100000) (hr:pG z y=t):ai Φ Tryz.prog ⟨188,[.fact p,.fact q],[oN x],false⟩:=
 dj fun _ _ _ _ h0 h1=>(Sm (hp _ _ (get h0)) (hq _ _ (get h1)) t hi hr).mono fun _ _ h=>PU hx h
end
section
variable (z y:Int) (ez ey:Nat->Int)
def mq:Nat->Int×Int
 | 0=>(z,y)
 | j+1=>if pG (aD (ez j) (ey j)) (aD (mq j).1 (mq j).2) > 0 then (ez j,ey j) else mq j
end
def Cx (z y:Int) (ez ey:Nat->Int) (n K:Nat):List WP:=
 [fun w v=>QV w v z y K,fun w v=>Arr 4 (fun i w v=>QV w v (ez i) (ey i) K) n w v,Ni (n:Int),fun w v=>QV w v (mq z y ez ey n).1 (mq z y ez ey n).2 K,
  Iw (pN (mq z y ez ey n).1 (mq z y ez ey n).2) (K+2),Iw (pD (mq z y ez ey n).2) (K+2),
  fun w v=>bk w v (aD (mq z y ez ey n).1 (mq z y ez ey n).2) (K+2),Nw (aD (mq z y ez ey n).1 (mq z y ez ey n).2).num (K+2),Nw ((aD (mq z y ez ey n).1 (mq z y ez ey n).2).den:Int) (K+2)]
def Ot (z y:Int) (ez ey:Nat->Int) (K j:Nat):List WP:=
 [Ni (j:Int),fun w v=>QV w v (mq z y ez ey j).1 (mq z y ez ey j).2 K,fun w v=>Ptr 4 (fun w v=>QV w v (ez j) (ey j) K) w v,fun w v=>QV w v (ez j) (ey j) K,
  Ni (pG (aD (ez j) (ey j)) (aD (mq z y ez ey j).1 (mq z y ez ey j).2)),Ni ((j:Int)+1)]
def Ou:bj:=⟨[2,4,7,8],[(.slot 9,.i),(.cell 1 0,.b),(.cell 1 1,.s),(.cell 1 2,.b),(.cell 1 3,.s)],[(.one 0,9),(.agg [1,2,3,4],10)],[.closed (.one (.ci .i64 0)),.frm 0],9,[(10,3)]⟩
def tT (r:Bool):List Step:=[bQ [.fact 9,.fact 2] oT (au .lss),bQ [.fact 1,.fact 9] [oP 11] (aO 204),
 bQ [.fact 11] [⟨qS,[(0,0,12)]⟩] (aS 55),.base ⟨188,[.fact 12,.fact 10],[oN 13],false⟩,
 bQ [.fact 13,.lit (.ci .i64 0)] [oL (.cb r)] (au .gtr),bQ [.fact 9,.lit (.ci .i64 1)] [oN 14] (au .add)]
def Sn:List Step:=[bQ [.fact 9,.fact 2] oF (au .lss)]
def So:List Step:=[bQ [.fact 1] [oN 2] (aI 204),.loop Ou [(tT true,[.frm 14,.frm 12]),(tT false,[.frm 14,.frm 10])] Sn,
 .base ⟨124,[.fact 3],[⟨iS,[(0,0,4)]⟩,⟨iS,[(0,0,5)]⟩],true⟩,.base ⟨97,[.fact 4,.fact 5],[⟨qS,[(0,0,6),(0,2,7),(2,2,8)]⟩],false⟩]
theorem Sp {z y:Int}{ez ey:Nat->Int}{n K:Nat} (hn:n<=1000000) (hK:K<=40000):ai (ph (Cx z y ez ey n K)) Tryz.prog ⟨172,[.fact 0,.fact 1],[⟨qS,[(0,0,6),(0,2,7),(2,2,8)]⟩],false⟩:=by
 have round:∀(j:Nat) (r:Bool),j<n->decide (pG (aD (ez j) (ey j)) (aD (mq z y ez ey j).1 (mq z y ez ey j).2) > 0)=r->∀t,t ∈ tT r->bt Tryz.prog (ph (Cx z y ez ey n K ++ Ot z y ez ey K j)) t:=fun j r hj hr=>
  PJ (p9 ad ad (Ov (decide_eq_true (by omega))))
   (lB (kF (i:=j) (sz:=4) (n:=n) (F:=fun i w v=>QV w v (ez i) (ey i) K) Tryz.underlying204 (by kernel_rfl) ad ad hj rfl)
   (lB (bK (sz:=4) (F:=fun w v=>QV w v (ez j) (ey j) K) (by kernel_rfl) (by kernel_rfl) ad (fun _ _ _ g h=>QV.kp h g) (fun _ _ h=>QV.is h) rfl)
   (lB (Sj vQ vQ rfl (by omega) rfl)
   (lB (cn ad (Ss hr))
   (lB (Su ad rfl (by omega) (by omega)) aC)))))
 refine bg [⟨qS,[(0,0,0)]⟩,oS 1] [⟨qS,[(0,0,6),(0,2,7),(2,2,8)]⟩] So Tryz.func172 (by kernel_rfl)
  (lB (kE (sz:=4) (n:=n) (F:=fun i w v=>QV w v (ez i) (ey i) K) Tryz.underlying204 ad rfl)
   (bN (counted n (fun j=>ph (Cx z y ez ey n K ++ Ot z y ez ey K j)) (fun j=>if pG (aD (ez j) (ey j)) (aD (mq z y ez ey j).1 (mq z y ez ey j).2) > 0 then 0 else 1) ?_ ⟨fun _=>rfl,ad,trivial⟩ (fun j hj=>?_) ?_ ?_)
   (lB (Mm ad rfl rfl (by omega))
   (lB (Mw (K+2) ad ad rfl rfl rfl (by omega) (by omega) (by omega) (Kz _) (by rw [KA])) aC))))
  (aK [.fact 0 qS,.fact 1 (.one .s)] ⟨fun _ _ h=>QV.is h,fun _ _ h=>Arr.is (sz:=4) (n:=n) (F:=fun i w v=>QV w v (ez i) (ey i) K) h,trivial⟩) bh
 ·intro j p hp
  match p,hp with
  | 0,_=>rfl
  | 1,_=>rfl
  | 2,_=>rfl
  | 3,_=>rfl
  | 4,_=>rfl
  | 5,_=>rfl
  | 6,_=>rfl
  | 7,_=>rfl
  | 8,_=>rfl
  | p+9,hp=>exact absurd hp (by simp only [Ou];omega)
 ·by_cases hc:pG (aD (ez j) (ey j)) (aD (mq z y ez ey j).1 (mq z y ez ey j).2) > 0
  ·refine ⟨(tT true,[.frm 14,.frm 12]),by rw [if_pos hc];rfl,⟨fun _ _ h=>?_,fun _ _ h=>?_,trivial⟩,round j true hj (decide_eq_true hc)⟩
   ·exact (h:_=Value.int .i64 ((j:Int)+1)).trans (by simp)
   ·show QV _ _ (mq z y ez ey (j+1)).1 (mq z y ez ey (j+1)).2 K
    rw [mq,if_pos hc];exact h
  ·refine ⟨(tT false,[.frm 14,.frm 10]),by rw [if_neg hc];rfl,⟨fun _ _ h=>?_,fun _ _ h=>?_,trivial⟩,round j false hj (decide_eq_false hc)⟩
   ·exact (h:_=Value.int .i64 ((j:Int)+1)).trans (by simp)
   ·show QV _ _ (mq z y ez ey (j+1)).1 (mq z y ez ey (j+1)).2 K
    rw [mq,if_neg hc];exact h
 ·exact PJ (p9 ad ad (Ov (decide_eq_false (by omega)))) aC
 ·intro q hq w v h
  rcases List.mem_singleton.1 hq with rfl
  exact h
theorem via {P:Program}{Φ Ψ:PH}{f:FuncId}{ar jt:List Arg}{outs ju:List Out}{aJ:Bool} (h:ai Ψ P ⟨f,jt,ju,aJ⟩) (ha:∀(X:Nat->Prop) (w:World) (vs:List Value),bF Φ X w ar vs->bF Ψ X w jt vs) (ho:∀(X:Nat->Prop) (w:World) (us:List Value),bc Ψ X w ju us->bc Φ X w outs us):ai Φ P ⟨f,ar,outs,aJ⟩:=
 fun X w vs hX h'=>(h X w vs hX (ha X w vs h')).mono fun _ w' ⟨hg,us,he,h2⟩=>⟨hg,us,he,ho X w' us h2⟩
section
variable {Φ:PH}{p q x x1 x2 n K:Nat}{z y:Int}{ez ey:Nat->Int}{t:Rat}
theorem Sv {Ψ:PH}{r k:Nat}{fs:List (Nat×Nat×Nat)} (hm:(0,0,r) ∈ fs) (hr:∀w v,Ψ r w v->bk w v t k) (hx:Φ x=fun w v=>bk w v t k) (hx1:Φ x1=Nw t.num k) (hx2:Φ x2=Nw (t.den:Int) k) (X:Nat->Prop) (w:World) (us:List Value) (h:bc Ψ X w [⟨qS,fs⟩] us):bc Φ X w [⟨qS,[(0,0,x),(0,2,x1),(2,2,x2)]⟩] us:=by
 match us,h with
 | [u],h=>
  refine ⟨⟨h.1.1,fun c hc w1 hw=>?_⟩,trivial⟩
  obtain ⟨b,s,m,c',b',s',m',c'',rfl,h1,h2⟩:=hr _ _ (h.1.2 (0,0,r) hm w1 hw)
  simp only [List.mem_cons,List.not_mem_nil,or_false] at hc
  rcases hc with rfl | rfl | rfl
  ·show Φ x w1 _;rw [hx];exact ⟨b,s,m,c',b',s',m',c'',rfl,h1,h2⟩
  ·show Φ x1 w1 _;rw [hx1];exact h1
  ·show Φ x2 w1 _;rw [hx2];exact h2
theorem RZ (hp:∀w v,Φ p w v->QV w v z y K) (hq:∀w v,Φ q w v->Arr 4 (fun i w v=>QV w v (ez i) (ey i) K) n w v) (hx:Φ x=fun w v=>bk w v t (K+2)) (hx1:Φ x1=Nw t.num (K+2)) (hx2:Φ x2=Nw (t.den:Int) (K+2))
  (hn:n<=1000000) (hK:K<=40000) (ht:aD (mq z y ez ey n).1 (mq z y ez ey n).2=t):ai Φ Tryz.prog ⟨172,[.fact p,.fact q],[⟨qS,[(0,0,x),(0,2,x1),(2,2,x2)]⟩],false⟩:=
 via (Sp (z:=z) (y:=y) (ez:=ez) (ey:=ey) hn hK) (fun X w vs h=>by
  match vs,h with
  | [v,u],h=>exact ⟨fun w1 hw=>hp _ _ (h.1 w1 hw),fun w1 hw=>hq _ _ (h.2.1 w1 hw),trivial⟩)
  (Sv (List.mem_cons_self ..) (fun _ _ h=>ht▸h) hx hx1 hx2)
end
end Go.Proofs.YthmcngjhkmpneaaGreat.Sym
