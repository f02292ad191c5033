/- Rows with room behind th -/
import Derived.Test.YtbjfgffibepmkaaGreatRowM
import Derived.Test.YtbjfgffibepmkaaGreatSymM
import Derived.Laws.Slices
import Derived.Laws.Small
namespace Go.Proofs.YtbjfgffibepmkaaGreat.Sym
open Go.RowKit
variable {T e:TypeId}{i n sz:Nat}{F:PH}{u v:Value}{G:WP}{w:World}{c:Int}
def Rw (sz:Nat) (F:PH) (n:Nat) (w:World) (v:Value):Prop:=
 ∃p c,v = .slice p n c∧n<=c∧∀i,i<n->∃b off,p=some ⟨b,off,none⟩∧∃l:List Value,l.length=sz∧(∀(j:Nat) (u:Value),l[j]?=some u->w.cell? ⟨b,off+i*sz+j,none⟩=some u)∧F i w (.agg l.toArray)
section
variable {m:Nat}{G:PH}{w':World}
theorem Rw.arr (h:Rw sz F n w v):Arr sz F n w v:=by
 obtain ⟨p,c,h1,_,h2⟩:=h
 exact ⟨p,c,h1,h2⟩
theorem Rw.is (h:Rw sz F n w v):(bW.one .s).is v:=by
 obtain ⟨p,c,rfl,_⟩:=h
 exact ⟨⟨_,_,_,rfl⟩,fun _ h=>by cases h⟩
theorem Rw.map (h:Rw sz F n w v) (hm:m<=n) (hf:∀i w v,i<m->F i w v->G i w v):∃p c,v = .slice p n c∧m<=c∧Rw sz G m w (.slice p m c):=by
 obtain ⟨p,c,h1,h2,h3⟩:=h
 refine ⟨p,c,h1,by omega,p,c,rfl,by omega,fun i hi=>?_⟩
 obtain ⟨b,off,h4,l,h5,h6,h7⟩:=h3 i (by omega)
 exact ⟨b,off,h4,l,h5,h6,hf i w _ hi h7⟩
theorem Rw.to (h:Rw sz F n w v) (hf:∀i w v,i<n->F i w v->G i w v):Rw sz G n w v:=by
 obtain ⟨p,c,h1,h2,h3⟩:=h
 refine ⟨p,c,h1,h2,fun i hi=>?_⟩
 obtain ⟨b,off,h4,l,h5,h6,h7⟩:=h3 i hi
 exact ⟨b,off,h4,l,h5,h6,hf i w _ hi h7⟩
theorem Rw.len (h:Rw sz F n w v) (e:n=m):Rw sz F m w v:=e▸h
theorem Rw.nil (sz:Nat) (F:PH) (w:World):Rw sz F 0 w (.slice none 0 0):=⟨none,0,rfl,Nat.le_refl _,fun i hi=>by omega⟩
theorem aC.rw (h:aC sz e F n w v):Rw sz F n w v:=by
 have h':=h.arr
 obtain ⟨rows,hl,hs,ho,hF⟩:=h
 obtain ⟨p,c,h1,h2⟩:=h'
 refine ⟨p,c,h1,?_,h2⟩
 rcases ho.1.2 with ⟨h3,h4⟩ | ⟨g,cap,cur,h3,hb,hh,h4,_⟩
 ·rw [h1] at h3
  injection h3 with _ _ h3
  omega
 ·rw [h1] at h3
  injection h3 with _ _ h3
  omega
theorem aC.to (h:aC sz e F n w v) (hf:∀i w v,i<n->F i w v->G i w v):aC sz e G n w v:=by
 obtain ⟨rows,hl,hs,ho,hF⟩:=h
 exact ⟨rows,hl,hs,ho,fun i r hr=>hf i w _ (by have:=(List.getElem?_eq_some_iff.1 hr).1;omega) (hF i r hr)⟩
theorem Rw.arg {Φ:PH}{p:Nat} (hF:∀i w w1 v,Kp w w1->F i w v->F i w1 v) (h:Rw sz F n w v) (hp:Φ p=Rw sz F n:=by rfl){X:Nat->Prop} (hX:∀b,X b->w.heap.size<=b):(Arg.fact p).ok Φ X w v:=fun w1 hw=>by
 rw [hp]
 obtain ⟨p,c,rfl,hc,h1⟩:=h
 refine ⟨p,c,rfl,hc,fun i hi=>?_⟩
 obtain ⟨b,off,rfl,l,h2,h3,h4⟩:=h1 i hi
 refine ⟨b,off,rfl,l,h2,fun j u hj=>?_,hF _ _ _ _ hw.1 h4⟩
 have:=h3 j u hj
 have hlt:=World.block_lt_of_cell? _ _ this
 rw [World.cell?_of_block (hw.2 b hlt (fun h=>by have:=hX b h;simp only at hlt;omega))]
 exact this
end
def er (T:TypeId):Op->Option (List Operand)
 | .slice t x none (some h) none=>if t=T then some [x,h] else none
 | _=>none
def kL (op:Builtin):Op->Option (List Operand)
 | .call ⟨.builtin b,args,_⟩=>if b == op then some args.toList else none
 | _=>none
section
variable {P:Program}{Φ:PH}{X:Nat->Prop}{p q x:Nat}{a b:Int}
theorem mo {m:Nat} (hT:P.underlying T=some (.slice e)) (hp:∀w v,Φ p w v->Rw sz F n w v) (hq:∀w v,Φ q w v->v = .int .i64 (m:Int)) (hm':m<=n) (hx:Φ x=Rw sz F m) (hz:dg P e=some sz:=by kernel_rfl):aj Φ P ⟨0,[.fact p,.fact q],[oS x],.quiet (er T)⟩:=fun X w ac o xs _ hm ha=>by
 unfold er at hm
 split at hm
 case h_2=>cases hm
 rename_i t y z ho
 split at hm
 case isFalse=>cases hm
 rename_i ht
 subst ht
 simp only [Option.some.injEq] at hm
 subst hm
 obtain ⟨s,c,hv,hc,he⟩:=hp _ _ (ha.1 w (Off.refl _ _))
 have hi2:=hq _ _ (ha.2.1 w (Off.refl _ _))
 refine ⟨.slice s m c,w,?_,bt w none,⟨⟨⟨⟨_,_,_,rfl⟩,fun _ h=>by cases h⟩,fun r hr w1 hw=>?_⟩,trivial⟩⟩
 ·unfold execOp
  have h0:(0:Int)<=(m:Int):=Int.natCast_nonneg m
  have h1:(m:Int)<=(c:Int):=by omega
  have ha0:(s.map fun y=>y.add 0)=s:=by cases s <;> simp [Addr.add_zero']
  simp only [ho,Option.map_none,Option.map_some,hv,hi2]
  simp [Instr.sliceAt,Instr.slice,run_underlying hT,Instr.sliceBounds,run_sliceBound (P:=P) w .i64 (m:Int) c .sliceAcap h0 h1,run_sizeOf hz,ha0]
 ·simp only [List.mem_singleton] at hr;subst hr
  show Φ x w1 _
  rw [hx]
  obtain ⟨s',c',hv',_,he'⟩:=hp _ _ (ha.1 w1 hw)
  rw [hv] at hv'
  simp only [Value.slice.injEq,true_and] at hv'
  obtain ⟨rfl,rfl⟩:=hv'
  exact ⟨s,c,rfl,by omega,fun i hi=>he' i (by omega)⟩
theorem cP {sh:bW} (hs:sh.is u) (hx:Φ x=G) (h:∀w1,Off X w w1->G w1 u):ch Φ X w [⟨sh,[(0,0,x)]⟩] [u]:=⟨⟨hs,fun r hr w1 hw=>by
 simp only [List.mem_singleton] at hr;subst hr
 show Φ x w1 _;rw [hx];exact h w1 hw⟩,trivial⟩
theorem dc (z:Int):(bW.one .i).is (.int .i64 z):=⟨⟨_,rfl⟩,fun _ h=>by cases h⟩
theorem ct  (hp:∀w v,Φ p w v->v = .int .i64 a) (hx:Φ x=Ni c) (hc:a+b=c:=by omega) (h1:-9223372036854775808<=c:=by omega) (h2:c<=9223372036854775807:=by omega):aj Φ P ⟨0,[.fact p,.lit (.ci .i64 b)],[oN x],.quiet (au .add)⟩:=fun X w ac o xs _ hm ha=>by
 obtain ⟨t,y,z,yt,ho,rfl⟩:=og hm
 refine ⟨.int .i64 c,w,?_,bt w none,cP (dc c) hx fun _ _=>rfl⟩
 refine mu ho (hp _ _ (ha.1 w (Off.refl _ _))) ha.2.1 ?_
 subst hc
 simp [binOp,Op.intArith,IntWalk.i64_in _ ⟨h1,h2⟩]
theorem eg  (hp:∀w v,Φ p w v->v = .int .i64 a) (hx:Φ x=Ni c) (hc:a-b=c:=by omega) (h1:-9223372036854775808<=c:=by omega) (h2:c<=9223372036854775807:=by omega):aj Φ P ⟨0,[.fact p,.lit (.ci .i64 b)],[oN x],.quiet (au .sub)⟩:=fun X w ac o xs _ hm ha=>by
 obtain ⟨t,y,z,yt,ho,rfl⟩:=og hm
 refine ⟨.int .i64 c,w,?_,bt w none,cP (dc c) hx fun _ _=>rfl⟩
 refine mu ho (hp _ _ (ha.1 w (Off.refl _ _))) ha.2.1 ?_
 subst hc
 simp [binOp,Op.intArith,IntWalk.i64_in _ ⟨h1,h2⟩]
theorem jg  (hp:∀w v,Φ p w v->v = .int .i64 a) (hq:∀w v,Φ q w v->v = .int .i64 b) (hx:Φ x=Ni c) (hc:a+b=c:=by omega) (h1:-9223372036854775808<=c:=by omega) (h2:c<=9223372036854775807:=by omega):aj Φ P ⟨0,[.fact p,.fact q],[oN x],.quiet (au .add)⟩:=fun X w ac o xs _ hm ha=>by
 obtain ⟨t,y,z,yt,ho,rfl⟩:=og hm
 refine ⟨.int .i64 c,w,?_,bt w none,cP (dc c) hx fun _ _=>rfl⟩
 refine mu ho (hp _ _ (ha.1 w (Off.refl _ _))) (hq _ _ (ha.2.1 w (Off.refl _ _))) ?_
 subst hc
 simp [binOp,Op.intArith,IntWalk.i64_in _ ⟨h1,h2⟩]
theorem Pn {op:Builtin}{o:Op}{xs:List Operand} (h:kL op o=some xs):∃args ts,o = .call ⟨.builtin op,args,ts⟩∧xs=args.toList:=by
 unfold kL at h
 split at h
 case h_2=>cases h
 rename_i b args ts
 split at h
 case isFalse=>cases h
 rename_i hb
 simp only [Option.some.injEq] at h
 simp only [beq_iff_eq] at hb
 subst hb
 exact ⟨args,ts,rfl,h.symm⟩
theorem Po {args:Array Operand}{f:Operand->Value} (h:args.toList.map f = [u,v]):∃y z,args = #[y,z]∧f y=u∧f z=v:=by
 match hl:args.toList,h with
 | [y,z],h=>
  simp only [List.map_cons,List.map_nil,List.cons.injEq,and_true] at h
  exact ⟨y,z,by apply Array.ext';simpa using hl,h.1,h.2⟩
theorem pV  (hp:∀w v,Φ p w v->v = .int .i64 a) (hq:∀w v,Φ q w v->v = .int .i64 b) (hc:(if b > a then b else a)=c) (hx:Φ x=Ni c):aj Φ P ⟨0,[.fact p,.fact q],[oN x],.quiet (kL .max)⟩:=fun X w ac o xs _ hm ha=>by
 obtain ⟨args,ts,ho,rfl⟩:=Pn hm
 obtain ⟨u,v,huv⟩:∃u v,args.toList.map ac.eval = [u,v]:=by
  match args.toList.map ac.eval,ha with
  | [u,v],_=>exact ⟨u,v,rfl⟩
 rw [huv] at ha
 obtain ⟨y,z,rfl,h1,h2⟩:=Po huv
 have e1:=hp _ _ (ha.1 w (Off.refl _ _))
 have e2:=hq _ _ (ha.2.1 w (Off.refl _ _))
 refine ⟨.int .i64 c,w,?_,bt w none,cP (dc c) hx fun _ _=>rfl⟩
 unfold execOp
 simp [ho,resolve,invoke,builtin,h1,h2,e1,e2,run_max_int2,hc]
theorem BW {z:Int} (hp:∀w v,Φ p w v->Ptr 1 (fun _ v=>v = .agg #[.int .i64 z]) w v) (hx:Φ x=Ni z) (hT:gC P T=some false:=by kernel_rfl):aj Φ P ⟨0,[.fact p],[oN x],.quiet (aO T)⟩:=fun X w ac o xs _ hm ha=>by
 unfold aO at hm
 split at hm
 case h_2=>cases hm
 rename_i t y ho
 split at hm
 case isFalse=>cases hm
 rename_i ht
 subst ht
 simp only [Option.some.injEq] at hm
 subst hm
 obtain ⟨b,off,hv,l,h1,h2,h3⟩:=hp _ _ (ha.1 w (Off.refl _ _))
 obtain rfl:l = [.int .i64 z]:=by simpa using h3
 have hc:=h2 0 _ rfl
 refine ⟨.int .i64 z,w,?_,bt w none,cP (dc z) hx fun _ _=>rfl⟩
 rw [Nat.add_zero] at hc
 unfold execOp
 simp [ho,hv,Instr.loadAt,Instr.sureAddr,loadVar,gD hT,hc]
def eS (T:TypeId) (f:Nat):Op->Option (List Operand)
 | .fieldAddr t x g=>if t=T∧g=f then some [x] else none
 | _=>none
theorem fj {f off len:Nat}{F:WP} (hp:∀w v,Φ p w v->Ptr sz F w v) (hG:∀w (l:List Value),F w (.agg l.toArray)->G w (.agg ((l.drop off).take len).toArray)) (hx:Φ x=Ptr len G) (hf:oh P T f=some off:=by kernel_rfl) (hl:off+len<=sz:=by omega):aj Φ P ⟨0,[.fact p],[oP x],.quiet (eS T f)⟩:=fun X w ac o xs _ hm ha=>by
 unfold eS at hm
 split at hm
 case h_2=>cases hm
 rename_i t y g ho
 split at hm
 case isFalse=>cases hm
 rename_i ht
 obtain ⟨rfl,rfl⟩:=ht
 simp only [Option.some.injEq] at hm
 subst hm
 obtain ⟨b,o',hv,_⟩:=hp _ _ (ha.1 w (Off.refl _ _))
 refine ⟨.pointer (some ⟨b,o'+off,none⟩),w,?_,bt w none,cP ⟨⟨_,rfl⟩,fun _ h=>by cases h⟩ hx fun w1 hw=>?_⟩
 ·have hr:=BZ (ρ:={ cV with g:=fun _=>some b }) (w:=w) (k:=0) (o:=o') hf
  unfold execOp
  simp only [ho,hv]
  simp only [Atom.ev,Option.getD_some] at hr
  simp [hr]
 ·obtain ⟨b',o1,hv',l,h1,h2,h3⟩:=hp _ _ (ha.1 w1 hw)
  rw [hv] at hv'
  simp only [Value.pointer.injEq,Option.some.injEq,Addr.mk.injEq] at hv'
  obtain ⟨rfl,rfl,_⟩:=hv'
  refine ⟨b,_,rfl,(l.drop off).take len,by rw [List.length_take,List.length_drop];omega,fun j u hj=>?_,hG _ _ h3⟩
  rw [List.getElem?_take] at hj
  split at hj
  ·rw [List.getElem?_drop] at hj
   rw [Nat.add_assoc]
   exact h2 _ _ hj
  ·cases hj
def gW (n:Nat) (_:World) (v:Value):Prop:=∃p c,v = .slice p n c
theorem gW.is  (h:gW n w v):(bW.one .s).is v:=by
 obtain ⟨p,c,rfl⟩:=h
 exact ⟨⟨_,_,_,rfl⟩,fun _ h=>by cases h⟩
theorem lS  (hT:P.underlying T=some (.slice e)) (hp:∀w v,Φ p w v->gW n w v) (hx:Φ x=Ni (n:Int)):aj Φ P ⟨0,[.fact p],[oN x],.quiet (aK T)⟩:=fun X w ac o xs _ hm ha=>by
 unfold aK at hm
 split at hm
 case h_2=>cases hm
 rename_i args ts ho
 split at hm
 case isFalse=>cases hm
 rename_i hts
 subst hts
 simp only [Option.some.injEq] at hm
 subst hm
 match hl:args.toList,ha with
 | [y],ha=>
  obtain ⟨s,c,hv⟩:=hp _ _ (ha.1 w (Off.refl _ _))
  have hargs:args = #[y]:=by apply Array.ext';simpa using hl
  subst hargs
  refine ⟨.int .i64 n,w,?_,bt w none,cP (dc n) hx fun _ _=>rfl⟩
  unfold execOp
  simp [ho,resolve,invoke,builtin,Builtin.len_,run_underlying hT,hv,goInt]
theorem nt  (hp:∀w v,Φ p w v->aC sz e F n w v) (hq:Φ q=gW n):∀(w w':World) (v:Value),Φ p w v->Φ q w' v:=fun w w' v h=>by
 rw [hq]
 obtain ⟨p,c,rfl,_⟩:=(hp w v h).arr
 exact ⟨p,c,rfl⟩
def Ca (op:BinOp) (a b:Int):Bool:=match op with
 | .lss=>decide (a<b)
 | .gtr=>decide (a > b)
 | .leq=>decide (a<=b)
 | .geq=>decide (a≥b)
 | .eql=>decide (a=b)
 | .neq=>decide (a≠b)
 | _=>false
theorem Pp (a b:Int):(a == b)=decide (a=b):=by
 by_cases h:a=b
 ·simp [h]
 ·simp [h]
theorem cj {op:BinOp}{k:IntKind}{r:Bool} (h:Ca op a b=r) (ho:op = .lss∨op = .gtr∨op = .leq∨op = .geq∨op = .eql∨op = .neq) (t:TypeId) (w:World):(binOp op t (.int k a) (.int k b)).run P w = .ok (.bool r) w:=by
 subst h
 rcases ho with rfl | rfl | rfl | rfl | rfl | rfl <;> simp [binOp,Op.intCmp,Ca,Pp,bne]
theorem cn {l m:List WP} (h:p<l.length):ph (l ++ m) p=ph l p:=by
 simp only [ph,List.getD_eq_getElem?_getD,List.getElem?_append_left h]
theorem fL {y:Nat}{J:List Nat} (hT:P.underlying T=some (.slice e)) (hp:∀w v,Φ p w v->Arr sz F n w v) (hq:∀w v,Φ q w v->v = .int .i64 (i:Int)) (hx:Φ x=Ptr sz (F i)) (hy:Φ y=At sz) (hz:dg P e=some sz:=by kernel_rfl) (hi:i<n:=by omega) :
  aj Φ P ⟨0,[.fact p,.fact q],[oP x],.joint J y (aN T)⟩:=Pq hT hz hp hq hi hx hy J
end
theorem Rw.Is (sz:Nat) (F:PH) (n:Nat):∀w v,Rw sz F n w v->(bW.one .s).is v:=fun _ _ h=>h.is
theorem Rw.To (sz:Nat) (F:PH) (n:Nat){G:PH} (hf:∀i w v,i<n->F i w v->G i w v):∀w v,Rw sz F n w v->Rw sz G n w v:=fun _ _ h=>h.to hf
section
variable {P:Program}{Φ:PH}{p q x:Nat}{a b:Int}
theorem bH (hp:∀w v,Φ p w v->Ni a w v) (hq:∀w v,Φ q w v->Ni b w v) (h:a<b:=by omega):aj Φ P ⟨0,[.fact p,.fact q],oT,.quiet (au .lss)⟩:=iH hp hq (cj (decide_eq_true h) (by simp))
theorem tlF (hp:∀w v,Φ p w v->Ni a w v) (hq:∀w v,Φ q w v->Ni b w v) (h:¬a<b:=by omega):aj Φ P ⟨0,[.fact p,.fact q],oF,.quiet (au .lss)⟩:=iH hp hq (cj (decide_eq_false h) (by simp))
theorem Jn (hp:∀w v,Φ p w v->Ni a w v) (hq:∀w v,Φ q w v->Ni b w v) (h:a≥b:=by omega):aj Φ P ⟨0,[.fact p,.fact q],oT,.quiet (au .geq)⟩:=iH hp hq (cj (decide_eq_true h) (by simp))
theorem thF (hp:∀w v,Φ p w v->Ni a w v) (hq:∀w v,Φ q w v->Ni b w v) (h:¬a≥b:=by omega):aj Φ P ⟨0,[.fact p,.fact q],oF,.quiet (au .geq)⟩:=iH hp hq (cj (decide_eq_false h) (by simp))
theorem qT (hp:∀w v,Φ p w v->Ni a w v) (h:a=b:=by omega):aj Φ P ⟨0,[.fact p,.lit (.ci .i64 b)],oT,.quiet (au .eql)⟩:=cB hp (cj (decide_eq_true h) (by simp))
theorem mw (hp:∀w v,Φ p w v->Ni a w v) (h:¬a=b:=by omega):aj Φ P ⟨0,[.fact p,.lit (.ci .i64 b)],oF,.quiet (au .eql)⟩:=cB hp (cj (decide_eq_false h) (by simp))
theorem gB (hp:∀w v,Φ p w v->Ni a w v) (h:a > b:=by omega):aj Φ P ⟨0,[.fact p,.lit (.ci .i64 b)],oT,.quiet (au .gtr)⟩:=cB hp (cj (decide_eq_true h) (by simp))
theorem kD (hp:∀w v,Φ p w v->Ni a w v) (h:¬a > b:=by omega):aj Φ P ⟨0,[.fact p,.lit (.ci .i64 b)],oF,.quiet (au .gtr)⟩:=cB hp (cj (decide_eq_false h) (by simp))
theorem aS  (hT:P.underlying T=some (.slice e)) (hp:∀w v,Φ p w v->Rw sz F n w v) (hx:Φ x=Nz n):aj Φ P ⟨0,[.fact p],[oN x],.quiet (aK T)⟩:=nD hT (fun _ _ h=>(hp _ _ h).arr) hx
theorem co  (hT:P.underlying T=some (.slice e)) (hp:∀w v,Φ p w v->Rw sz F n w v) (hq:∀w v,Φ q w v->Nz i w v) (hx:Φ x=Ptr sz (F i)) (hz:dg P e=some sz:=by kernel_rfl) (hi:i<n:=by omega):aj Φ P ⟨0,[.fact p,.fact q],[oP x],.quiet (aN T)⟩:=nE hT hz (fun _ _ h=>(hp _ _ h).arr) hq hi hx
end
end Go.Proofs.YtbjfgffibepmkaaGreat.Sym
