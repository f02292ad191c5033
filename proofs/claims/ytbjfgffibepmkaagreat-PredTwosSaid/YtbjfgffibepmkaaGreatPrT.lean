/- Layer 14 -/
import Derived.Test.YtbjfgffibepmkaaGreatPrQ
import Derived.Test.YtbjfgffibepmkaaGreatPrS
set_option maxRecDepth 100000
namespace Go.Proofs.YtbjfgffibepmkaaGreat.Sym
open Go.Proofs.Tryz
open Go.RowKit Go.ChangeShapes Go.WideShapes Go.ChangeAt
variable {X Y:List Int}{k:Nat}{v:Value}{Φ:PH}
def Pt5 (A B C:WP) (w:World) (v:Value):Prop:=∃a b s t u,fW [.s,.s,.b,.s] [a,b,s,t]∧v = .agg #[a,b,s,t,u]∧A w a∧B w b∧C w (.agg #[s,t])
abbrev bj (ax ay:Nat->Nat->Bool) (xx xy:Nat->Nat->List Nat) (mx my:Nat->Nat) (b0:Nat->Bool) (x0:Nat->List Nat) (i:Nat):WP:=Pt5 (fun w v=>Rw 2 (fun j w v=>aH w v (ax i j) (xx i j)) (mx i) w v) (fun w v=>Rw 2 (fun j w v=>aH w v (ay i j) (xy i j)) (my i) w v) (fun w v=>aH w v (b0 i) (x0 i))
theorem Pt5.fst {A B C:WP} (w:World) (l:List Value) (h:Pt5 A B C w (.agg l.toArray)):Cv4 A B C w (.agg ((l.drop 0).take 4).toArray):=by
 obtain ⟨a,b,s,t,u,h0,e,h1,h2,h3⟩:=h
 obtain rfl:l = [a,b,s,t,u]:=by simpa using e
 exact ⟨a,b,s,t,h0,rfl,h1,h2,h3⟩
section
variable {p x n:Nat}
theorem eX {F:PH} (hx:Φ x=Rw 2 F n) (hn:n=0) (X:Nat->Prop) (w:World) (v:Value) (h:(Arg.parts (.one (.lit .nl)) []).ok Φ X w v):(Arg.fact x).ok Φ X w v:=fun w1 _=>by
 rw [hx,hn]
 have e:v = .slice none 0 0:=h.1.1
 rw [e]
 exact Rw.nil _ _ _
theorem iV {d:Int} (hx:Φ x=Iw d k) (hd:d=0) (Y:Nat->Prop) (w:World) (v:Value) (h:(Arg.parts (.agg [.lit (.cb false),.lit .nl]) []).ok Φ Y w v):(Arg.fact x).ok Φ Y w v:=fun w1 hw=>by
 rw [hx,hd]
 have:=kM (Φ:=ph [Nw 0 0]) (p:=0) rfl Y w v ⟨h.1,fun r hr=>by simp at hr⟩ w1 hw
 exact ak.i (ak.more this (Nat.zero_le k))
end
theorem fX.self  (hX:cG X) (hY:cG Y):fX (ae X) (ae Y) X.length Y.length 1 X Y 1:=by
 have h1:di (ceE 1) (ae X) (ae Y) X.length Y.length=1:=tf (fun i=>by unfold bc aE;split <;> exact DC _) _
 refine ⟨?_,?_,by rw [h1];rfl⟩
 ·rw [h1];exact (rf (ae X) X.length).symm.trans (et hX)
 ·rw [h1];exact (rf (ae Y) Y.length).symm.trans (et hY)
theorem li  (hk:1<=k:=by omega):EOk 1 k [1]:=⟨Nat.le_refl _,fun _=>(by decide:(1:Int)≠0),fun i=>by
 match i with
 | 0=>exact gF hk
 | i+1=>exact Nat.pow_pos (by omega)⟩
theorem CuG.self {c:Nat} (hX:EOk c k X) (hY:EOk c k Y) (hc:c<=20) (k1:1<=k) (hk:k<=20):CuG (ae X) (ae Y) X.length Y.length 1 X Y 1 c k:=
 ⟨fX.self hX.nrm hY.nrm,by have:=hX.len;omega,by have:=hY.len;omega,k1,hk,hc,hX,hY,li (hk:=k1)⟩
section
variable {H:Type}{enc:TypeId×Value->H}{W:World}{base:Nat}{held:Bool}
theorem Ba {base':Nat}{d:DataW H}{ps:List MemPlace} (h:DataW.Trod enc prog W base (fun _=>true) held 22 v d ps) (hv:Value.okWide prog W .any base' 22 v) :
  ∃(n:Nat) (mx my:Nat->Nat) (ax ay:Nat->Nat->Bool) (xx xy:Nat->Nat->List Nat) (b0:Nat->Bool) (x0:Nat->List Nat),(n<=9223372036854775807∧∀i,i<n->mx i<=9223372036854775807∧my i<=9223372036854775807)∧Rw 5 (bj ax ay xx xy mx my b0 x0) n W v:=by
 obtain ⟨a0,len,cap,rfl⟩:=okWide_slice underlying22 hv
 obtain ⟨fuel,hf⟩:=h
 rcases Deep.open_slice underlying22 hf with ⟨hcs,_⟩ | ⟨a,len',cap',m,n,D,Pl,hcs,_,hl,hm,hmm,_,hx⟩
 ·simp [Value.cells] at hcs
  obtain ⟨rfl,rfl,rfl⟩:=hcs
  exact ⟨0,fun _=>0,fun _=>0,fun _ _=>false,fun _ _=>false,fun _ _=>[],fun _ _=>[],fun _=>false,fun _=>[],⟨by omega,fun _ _=>by omega⟩,none,0,rfl,Nat.le_refl _,fun i hi=>by omega⟩
 ·simp [Value.cells] at hcs
  obtain ⟨rfl,rfl,rfl⟩:=hcs
  simp only [if_true] at hmm
  have each:∀i,i<len->∃q:(Nat×Nat)×((Nat->Bool)×(Nat->Bool))×((Nat->List Nat)×(Nat->List Nat))×(Bool×List Nat)×List Value,(q.1.1<=9223372036854775807∧q.1.2<=9223372036854775807)∧q.2.2.2.2.length=5∧(∀(j:Nat) (u:Value),q.2.2.2.2[j]?=some u->W.cell? (a.add (i*5+j))=some u)∧Pt5 (fun w v=>Rw 2 (fun j w v=>aH w v (q.2.1.1 j) (q.2.2.1.1 j)) q.1.1 w v) (fun w v=>Rw 2 (fun j w v=>aH w v (q.2.1.2 j) (q.2.2.1.2 j)) q.1.2 w v) (fun w v=>aH w v q.2.2.2.1.1 q.2.2.2.1.2) W (.agg q.2.2.2.2.toArray):=fun i hi=>by
   obtain ⟨cs,h1,h2⟩:=hx i (by omega)
   rw [show prog.cellsOf 87=5 by kernel_rfl] at h1
   obtain ⟨_,hlen,hcell⟩:=World.cells?_some h1
   match cs,hlen with
   | [c0,c1,c2,c3,c4],_=>
    obtain ⟨ys,n',_,-,-,jb,hf2⟩:=DataW.trod_struct underlying87 h2
    match ys,jb with
    | [y0,y1],_=>
     have h3:DataW.trod enc prog W base (fun _=>true) held n' 29 (List.take (prog.cellsOf 29) (List.drop 0 [c0,c1,c2,c3,c4]))=some y0:=hf2 0 _ rfl
     rw [IN] at h3
     simp only [List.drop_zero,List.take_succ_cons,List.take_zero] at h3
     obtain ⟨z0,z1,z2,n2,-,-,g0,g1,g2⟩:=Deep.trod_struct3 underlying29 h3
     simp only [IM,Tryz.cells24,List.drop_zero,List.take_succ_cons,List.take_zero,List.drop_succ_cons] at g0 g1 g2
     obtain ⟨n,a1,xs,hn,hx1⟩:=sV g0
     obtain ⟨m2,a2,ys,hm2,hy1⟩:=sV g1
     obtain ⟨b,zs,rfl,h5,h6⟩:=sW g2
     refine ⟨((n,m2),(a1,a2),(xs,ys),(b,zs),[c0,c1,.bool b,c3,c4]),⟨hn,hm2⟩,rfl,fun j u hj=>?_,c0,c1,.bool b,c3,c4,⟨dE hx1,dE hy1,⟨_,rfl⟩,?_,trivial⟩,rfl,hx1,hy1,⟨_,rfl,h5,h6⟩⟩
     ·have hlt:=(List.getElem?_eq_some_iff.1 hj).1
      have e:=hcell j (by simpa using hlt)
      rw [Deep.add_add] at e
      rw [e]
      exact hj
     ·obtain ⟨vs,e,hh⟩:=aH.is (⟨_,rfl,h5,h6⟩:aH W (.agg #[.bool b,c3]) b zs)
      match vs,e,hh with
      | [v0,v1],e,hh=>
       obtain ⟨-,rfl⟩:Value.bool b=v0∧c3=v1:=by simpa using e
       exact hh.2.1
  obtain ⟨q,hq⟩:=Deep.choose_lt each
  refine ⟨len,fun i=>(q i).1.1,fun i=>(q i).1.2,fun i=>(q i).2.1.1,fun i=>(q i).2.1.2,fun i=>(q i).2.2.1.1,fun i=>(q i).2.2.1.2,fun i=>(q i).2.2.2.1.1,fun i=>(q i).2.2.2.1.2,⟨?_,fun i hi=>(hq i hi).1⟩,some a,cap,rfl,hl,fun i hi=>?_⟩
  ·have:maxLen<=9223372036854775807:=by decide
   omega
  obtain ⟨-,h1,h2,h3⟩:=hq i hi
  obtain ⟨b,off,spot⟩:=a
  obtain ⟨-,g1,g2,-⟩:=hq 0 (by omega)
  have h0:=g2 0 ((q 0).2.2.2.2[0]'(by omega)) (List.getElem?_eq_getElem (by omega))
  have hspot:spot=none:=by simpa [Addr.add] using World.cell?_spot h0
  subst hspot
  refine ⟨b,off,rfl,(q i).2.2.2.2,h1,fun j u hj=>?_,h3⟩
  have:=h2 j u hj
  rw [Addr.add_lit] at this
  rw [Nat.add_assoc];exact this
end
theorem AY {p n:Nat}{mx my:Nat->Nat}{ax ay:Nat->Nat->Bool}{xx xy:Nat->Nat->List Nat}{b0:Nat->Bool}{x0:Nat->List Nat}{w:World} (h:Rw 5 (bj ax ay xx xy mx my b0 x0) n w v) (hp:Φ p=Rw 5 (bj ax ay xx xy mx my b0 x0) n:=by rfl):(Arg.fact p).ok Φ (fun _=>False) w v:=fun w1 hw=>by
 rw [hp]
 obtain ⟨p,c,rfl,hc,he⟩:=h
 have row:∀{n:Nat}{al:Nat->Bool}{xl:Nat->List Nat}{v:Value},Rw 2 (fun j w v=>aH w v (al j) (xl j)) n w v->Rw 2 (fun j w v=>aH w v (al j) (xl j)) n w1 v:=fun {n al xl v} h=>by
  obtain ⟨p2,c2,rfl,hc2,he2⟩:=h
  refine ⟨p2,c2,rfl,hc2,fun j hj=>?_⟩
  obtain ⟨b2,iy,rfl,l2,g1,g2,g3⟩:=he2 j hj
  refine ⟨b2,iy,rfl,l2,g1,fun j' u hj'=>?_,aH.kp g3 hw.1⟩
  have hc:=g2 j' u hj'
  rw [World.cell?_of_block (hw.2 b2 (World.block_lt_of_cell? _ _ hc) fun h=>h)];exact hc
 refine ⟨p,c,rfl,hc,fun i hi=>?_⟩
 obtain ⟨b,off,rfl,l,h1,h2,u0,u1,u2,u3,u4,hs,e,k1,k2,k3⟩:=he i hi
 refine ⟨b,off,rfl,l,h1,fun j u hj=>?_,u0,u1,u2,u3,u4,hs,e,row k1,row k2,aH.kp k3 hw.1⟩
 have hc:=h2 j u hj
 rw [World.cell?_of_block (hw.2 b (World.block_lt_of_cell? _ _ hc) fun h=>h)];exact hc
theorem Vg:aI 3 (orM [] [] [1] [] [] [1] 1 1 1) = [1]:=by decide +kernel
theorem Vh:aI 4 (bN [] [] [1] [] [] [1] [1] [1] 1 1 1 1) = []:=by decide +kernel
def Vi  : List WP:=[Ni 0,Rw 2 (Nf (ae ([]:List Int)) 2) (([]:List Int).length),Rw 2 (Nf (ae ([]:List Int)) 2) (([]:List Int).length),Nw (1:Int) 2,Ni 1,Rw 2 (Nf (ae ([1])) 2) ([1].length),Rw 2 (Nf (ae ([]:List Int)) 2) (([]:List Int).length),Nw (1:Int) 2,Rw 2 (Nf (ae ([]:List Int)) 2) (([]:List Int).length),Rw 2 (Nf (ae ([1])) 2) ([1].length),Nw (1:Int) 2,Rw 2 (Nf (ae ([1])) 2) ([1].length),Rw 2 (Nf (ae ([1])) 2) ([1].length),Nw (1:Int) 2,fun w v=>Rw 1 (fun i _ v=>v = .agg #[.int .i64 (ae [1] i)]) 1 w v,fun w v=>Rw 4 (fun ι w v=>af w v ((((ae ([1])) ι:Int):Rat)) 6) 1 w v,Rw 2 (Nf (ae ([1])) 2000) ([1].length),Rw 2 (Nf (ae ([]:List Int)) 2000) (([]:List Int).length),Ni ((([]:List Int).length:Nat):Int)]
def Vj:List Step:=[.derive (.one (.ci .i64 0)) (.one (.lit (.ci .i64 0))) [] 0,.derive (.one (.ci .i64 1)) (.one (.lit (.ci .i64 1))) [] 4,.base ⟨26,[0,0],[⟨.agg [.s,.s,.b,.s],[(0,1,1),(1,1,2),(2,2,3)]⟩],false⟩,.base ⟨26,[4,0],[⟨.agg [.s,.s,.b,.s],[(0,1,5),(1,1,6),(2,2,7)]⟩],false⟩,.base ⟨26,[0,4],[⟨.agg [.s,.s,.b,.s],[(0,1,8),(1,1,9),(2,2,10)]⟩],false⟩,.base ⟨26,[4,4],[⟨.agg [.s,.s,.b,.s],[(0,1,11),(1,1,12),(2,2,13)]⟩],false⟩,.base ⟨0,[.any,4],[oS 14],.fresh [] (cu 49 1)⟩,.base ⟨28,[14],[oS 15],false⟩,.base ⟨20,[.parts cS [(0,1,1),(1,1,2),(2,2,3)],.parts cS [(0,1,5),(1,1,6),(2,2,7)],.parts cS [(0,1,8),(1,1,9),(2,2,10)]],[oS 16],false⟩,.base ⟨11,[15,16],oT,false⟩,.base ⟨22,[.parts cS [(0,1,1),(1,1,2),(2,2,3)],.parts cS [(0,1,5),(1,1,6),(2,2,7)],.parts cS [(0,1,8),(1,1,9),(2,2,10)],.parts cS [(0,1,11),(1,1,12),(2,2,13)]],[oS 17],false⟩,bQ [17] [oN 18] (aK 24),bQ [18,.lit (.ci .i64 0)] oT (au .eql)]
def Vk:List Out:=[]
theorem Vl   : aj (ph (Vi )) prog ⟨18,[],oT,false⟩:=aQ Vk oT Vj func18 (by kernel_rfl) (ba (ef rfl) (ba (ef rfl) (lB (pU (a:=0) (b:=0) (X:=([]:List Int)) (Y:=([]:List Int)) ad ad rfl rfl rfl) (lB (pU (a:=1) (b:=0) (X:=[1]) (Y:=([]:List Int)) ad ad rfl rfl rfl) (lB (pU (a:=0) (b:=1) (X:=([]:List Int)) (Y:=[1]) ad ad rfl rfl rfl) (lB (pU (a:=1) (b:=1) (X:=[1]) (Y:=[1]) ad ad rfl rfl rfl) (lB (eP (ps:=[4]) (sz:=1) (n:=1) (F:=(fun i _ v=>v = .agg #[.int .i64 (ae [1] i)])) (zc:=.one (.ci .i64 0)) underlying49 rfl (rj ad) rfl) (lB (zG (z:=ae [1]) (n:=1) (L:=[1]) ad rfl (qh (by decide))) (lB (Bc (k:=2) (c:=1) (fun _ _ h=>Rw.to (sz:=2) (n:=([]:List Int).length) (F:=(fun ι w v=>ak w v ((ae ([]:List Int)) ι) 2)) h fun _ _ _ _ h=>ak.i h) (fun _ _ h=>Rw.to (sz:=2) (n:=([]:List Int).length) (F:=(fun ι w v=>ak w v ((ae ([]:List Int)) ι) 2)) h fun _ _ _ _ h=>ak.i h) (fun _ _ h=>ak.i h) (fun _ _ h=>Rw.to (sz:=2) (n:=[1].length) (F:=(fun ι w v=>ak w v ((ae ([1])) ι) 2)) h fun _ _ _ _ h=>ak.i h) (fun _ _ h=>Rw.to (sz:=2) (n:=([]:List Int).length) (F:=(fun ι w v=>ak w v ((ae ([]:List Int)) ι) 2)) h fun _ _ _ _ h=>ak.i h) (fun _ _ h=>ak.i h) (fun _ _ h=>Rw.to (sz:=2) (n:=([]:List Int).length) (F:=(fun ι w v=>ak w v ((ae ([]:List Int)) ι) 2)) h fun _ _ _ _ h=>ak.i h) (fun _ _ h=>Rw.to (sz:=2) (n:=[1].length) (F:=(fun ι w v=>ak w v ((ae ([1])) ι) 2)) h fun _ _ _ _ h=>ak.i h) (fun _ _ h=>ak.i h) (by rw [Vg];rfl) (CuG.self (EOk.nil 1 2) (EOk.nil 1 2) (by omega) (by omega) (by omega)) (CuG.self (li (k:=2)) (EOk.nil 1 2) (by omega) (by omega) (by omega)) (CuG.self (EOk.nil 1 2) (li (k:=2)) (by omega) (by omega) (by omega))) (lB (qC (z:=(ae ([1]))) (n:=[1].length) (k:=2000) (kq:=6) ad ad (by decide) (hkq:=(by decide)) (hk:=(by decide))) (lB (AU (k:=2) (c:=1) (fun _ _ h=>Rw.to (sz:=2) (n:=([]:List Int).length) (F:=(fun ι w v=>ak w v ((ae ([]:List Int)) ι) 2)) h fun _ _ _ _ h=>ak.i h) (fun _ _ h=>Rw.to (sz:=2) (n:=([]:List Int).length) (F:=(fun ι w v=>ak w v ((ae ([]:List Int)) ι) 2)) h fun _ _ _ _ h=>ak.i h) (fun _ _ h=>ak.i h) (fun _ _ h=>Rw.to (sz:=2) (n:=[1].length) (F:=(fun ι w v=>ak w v ((ae ([1])) ι) 2)) h fun _ _ _ _ h=>ak.i h) (fun _ _ h=>Rw.to (sz:=2) (n:=([]:List Int).length) (F:=(fun ι w v=>ak w v ((ae ([]:List Int)) ι) 2)) h fun _ _ _ _ h=>ak.i h) (fun _ _ h=>ak.i h) (fun _ _ h=>Rw.to (sz:=2) (n:=([]:List Int).length) (F:=(fun ι w v=>ak w v ((ae ([]:List Int)) ι) 2)) h fun _ _ _ _ h=>ak.i h) (fun _ _ h=>Rw.to (sz:=2) (n:=[1].length) (F:=(fun ι w v=>ak w v ((ae ([1])) ι) 2)) h fun _ _ _ _ h=>ak.i h) (fun _ _ h=>ak.i h) (fun _ _ h=>Rw.to (sz:=2) (n:=[1].length) (F:=(fun ι w v=>ak w v ((ae ([1])) ι) 2)) h fun _ _ _ _ h=>ak.i h) (fun _ _ h=>Rw.to (sz:=2) (n:=[1].length) (F:=(fun ι w v=>ak w v ((ae ([1])) ι) 2)) h fun _ _ _ _ h=>ak.i h) (fun _ _ h=>ak.i h) (by rw [Vh];rfl) (CuG.self (EOk.nil 1 2) (EOk.nil 1 2) (by omega) (by omega) (by omega)) (CuG.self (li (k:=2)) (EOk.nil 1 2) (by omega) (by omega) (by omega)) (CuG.self (EOk.nil 1 2) (li (k:=2)) (by omega) (by omega) (by omega)) (CuG.self (li (k:=2)) (li (k:=2)) (by omega) (by omega) (by omega))) (lB (aS (F:=(Nf (ae ([]:List Int)) 2000)) underlying24 ad rfl) (lB (cB (op:=.eql) ad (cj (rfl) (by simp))) aD)))))))))))))
  (aM [] trivial) aV
theorem AV :aj Φ prog ⟨18,[],oT,false⟩:=aT Vl trivial ⟨⟨rfl,trivial⟩,trivial⟩
end Go.Proofs.YtbjfgffibepmkaaGreat.Sym
