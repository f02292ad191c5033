/- A region that draws its -/
import Derived.Test.YtbjfgffibepmkaaGreatGcd
namespace Go.Proofs.YtbjfgffibepmkaaGreat
open Go.Proofs.Tryz
open Go.RowKit
variable {done:Array Bool}{j k l n:Nat}{o oi:Oper}{v:Value}{a:Act}{w w':World}{rs:List Nat}{y z:Int}{e:Ending}{r:Rat}
section
variable {P:Program}{ops:Array Oper}{Q:Exit->Act->World->Prop}{md:Region.Mode}{T:World->Prop}
def eK (P:Program) (md:Region.Mode) (ops:Array Oper) (Q:Exit->Act->World->Prop) (T:World->Prop) (k:Nat):Nat->Array Bool->Act->World->Prop
 | 0,done,a,w=>Region.ready md ops done = []∧Q .normal a w
 | n+1,done,a,w=>(Region.ready md ops done = []->Q .normal a w) ∧
   ∀i ∈ Region.ready md ops done,wpOp P ops Q i (fun a' w'=>((done.setIfInBounds i true).getD k true=false->T w')∧eK P md ops Q T k n (done.setIfInBounds i true) a' w') a w
theorem eK.any:∀(n:Nat) (done:Array Bool) (a:Act) (w:World),eK P md ops Q T k n done a w->wpAny P md ops Q n done a w
 | 0,_,_,_,h=>h
 | n+1,_,_,_,h=>⟨h.1,fun i hi=>wpOp_mono (fun a' w' h'=>eK.any n _ a' w' h'.2) (h.2 i hi)⟩
def rD (md:Region.Mode) (ops:Array Oper) (j i:Nat):Bool:=((ops[j]?).map fun o=>o.after.toList.any fun e=>Region.binds md e && e.on == i).getD false
theorem vW {i:Nat} (h:rD md ops j i=true) (hi:done.getD i true=false):j ∉ Region.ready md ops done:=fun hj=>by
 obtain ⟨-,o,ho,hall⟩:=mem_ready.1 hj
 simp only [rD,ho,Option.map_some,Option.getD_some,List.any_eq_true,Bool.and_eq_true,beq_iff_eq] at h
 obtain ⟨e,he,hb,rfl⟩:=h
 have h1:=hall e (by simpa using he) hb
 have hlt:e.on<done.size:=by
  rcases Nat.lt_or_ge e.on done.size with h' | h'
  ·exact h'
  ·simp [Array.getElem?_eq_none h'] at hi
 simp [hlt] at h1 hi
 rw [hi] at h1
 cases h1
theorem vY {i:Nat} (hne:i≠j) (h:done.getD j true=false):(done.setIfInBounds i true).getD j true=false:=by
 rw [getD_set_ne true hne];exact h
def Behind (md:Region.Mode) (ops:Array Oper) (i:Nat) (C:List Nat):Bool:=C.all fun c=>(i :: C).any fun d=>rD md ops c d
theorem EL {i:Nat}{C:List Nat} (h:Behind md ops i C=true) (hi:done.getD i true=false) (hC:∀c,c ∈ C->done.getD c true=false) (hj:j ∈ Region.ready md ops done):j ∉ C:=fun hm=>by
 have h1:=List.all_eq_true.1 h j hm
 obtain ⟨d,hd,hw⟩:=List.any_eq_true.1 h1
 rcases List.mem_cons.1 hd with rfl | hd
 ·exact vW hw hi hj
 ·exact vW hw (hC d hd) hj
theorem eK.first {i:Nat}{C:List Nat} (hi:ops[i]?=some oi) (hsel:∀(j:Nat) (o:Oper) cs b,ops[j]?=some o->o.op≠.select cs b)
  (hQ:∀c a w,Q (.panic c) (a.put oi.dst v) w->Q (.panic c) a w) (hb:Behind md ops i C=true) (hkC:k ∈ C) :
  ∀(n:Nat) (done:Array Bool) (a:Act) (w:World),
   (∀j oj,ops[j]?=some oj->j≠i->done.getD j true=false->(∀e ∈ oj.after,Region.binds md e=true->e.on≠i)->oi.apart ops oj=true)->
   i ∈ Region.ready md ops done->(∀c,c ∈ C->done.getD c true=false)->YieldsIf P ops T oi v a->T w->
   eK P md ops Q T k n (done.setIfInBounds i true) (a.put oi.dst v) w->eK P md ops Q T k (n+1) done a w:=by
 intro n
 induction n with
 | zero=>
  intro done a w _ hr _ hy hT H
  refine ⟨fun h=>(by rw [h] at hr;cases hr),fun j hj=>?_⟩
  by_cases hji:j=i
  ·subst hji;exact hy.wpOp hi hT ⟨fun _=>hT,H⟩
  ·have:=ready_mono hj hji
   rw [H.1] at this
   cases this
 | succ n ih=>
  intro done a w hfree hr hC hy hT H
  have hiu:done.getD i true=false:=(mem_ready.1 hr).1
  refine ⟨fun h=>(by rw [h] at hr;cases hr),fun j hj=>?_⟩
  by_cases hji:j=i
  ·subst hji;exact hy.wpOp hi hT ⟨fun _=>hT,H⟩
  ·have hjC:=EL hb hiu hC hj
   have hiC:=EL hb hiu hC hr
   have hjk:j≠k:=fun e=>hjC (e▸hkC)
   have hik:i≠k:=fun e=>hiC (e▸hkC)
   have h1:=H.2 j (ready_mono hj hji)
   obtain ⟨hju,oj,hoj,hall⟩:=mem_ready.1 hj
   have hno:∀e ∈ oj.after,Region.binds md e=true->e.on≠i:=fun e he hb heq=>
    vW (md:=md) (ops:=ops) (j:=j) (i:=i) (by simp only [rD,hoj,Option.map_some,Option.getD_some,List.any_eq_true,Bool.and_eq_true,beq_iff_eq];exact ⟨e,by simpa using he,hb,heq⟩) hiu hj
   have h2:=wpOp_putIf hoj (hfree j oj hoj hji hju hno) (fun cs b=>hsel i oi cs b hi) (fun cs b=>hsel j oj cs b hoj) hQ hy h1
   refine wpOp_mono (fun a' w' h3=>?_) h2
   have hT':T w':=h3.2.1 (vY hjk (vY hik (hC k hkC)))
   refine ⟨fun _=>hT',ih (done.setIfInBounds j true) a' w' (fun q oq hq hqi hu hn=>?_) (ready_mono hr (Ne.symm hji)) (fun c hc=>vY (fun e=>hjC (e▸hc)) (hC c hc)) h3.1 hT' ?_⟩
   ·refine hfree q oq hq hqi ?_ hn
    by_cases e:j=q
    ·subst e;exact hju
    ·rw [getD_set_ne true e] at hu;exact hu
   ·rw [Array.setIfInBounds_comm _ _ hji];exact h3.2.2
theorem eK.take (C:List Nat){i:Nat} (hi:ops[i]?=some oi)
  (hs:Region.noSelect ops=true) (hf:Region.free md ops done i=true) (hr:(Region.ready md ops done).contains i=true) (hw:(Behind md ops i C && C.contains k && C.all fun c=>!done.getD c true)=true)
  (hQ:∀c a w,Q (.panic c) (a.put oi.dst v) w->Q (.panic c) a w) (hy:YieldsIf P ops T oi v a) (hT:T w)
  (h:eK P md ops Q T k n (done.setIfInBounds i true) (a.put oi.dst v) w):eK P md ops Q T k (n+1) done a w:=by
 simp only [Bool.and_eq_true] at hw
 exact eK.first hi (Region.noSelect_spec hs) hQ hw.1.1 (by simpa using hw.1.2) n done a w (Region.free_spec hi hf) (by simpa using hr) (fun c hc=>by simpa using List.all_eq_true.1 hw.2 c hc) hy hT h
theorem eK.start {id:Nat} (k:Nat) (hm:P.follows .mixedOrders=true) (hT:T w.drew) (h:T w.drew->eK P .any ops Q T k ops.size (Array.replicate ops.size false) a w.drew):(Code.region id ops true).wp P Q a w:=
 wp_region_any hm (eK.any _ _ _ _ (h hT))
def Each (P:Program) (md:Region.Mode) (ops:Array Oper) (Q:Exit->Act->World->Prop) (T:World->Prop) (k n:Nat) (done:Array Bool) (a:Act) (w:World) (rs:List Nat):Prop:=
 ∀i ∈ rs,wpOp P ops Q i (fun a' w'=>((done.setIfInBounds i true).getD k true=false->T w')∧eK P md ops Q T k n (done.setIfInBounds i true) a' w') a w
theorem Each.nil :Each P md ops Q T k n done a w []:=fun _ h=>by cases h
theorem eK.ready  (hr:Region.ready md ops done=rs) (hne:rs ≠ []) (h:Each P md ops Q T k n done a w rs):eK P md ops Q T k (n+1) done a w:=
 ⟨fun h0=>absurd (hr▸h0) hne,hr▸h⟩
theorem Each.held {i:Nat} (ho:ops[i]?=some o)
  (h:∀K':Act->World->Prop,Shut (∀a w,T w->(T w->eK P md ops Q T k n (done.setIfInBounds i true) a w)->K' a w)->if Region.wanted o (yielded ops a.tmps)=true then Oper.wp P o a w K' Q else K' (a.put o.dst undef) w)
  (hs:Each P md ops Q T k n done a w rs):Each P md ops Q T k n done a w (i :: rs):=fun j hj=>by
 rcases List.mem_cons.1 hj with rfl | hj
 ·exact wpOp_step ho (fun K' hK=>h K' (fun a w hS hW=>hK a w ⟨fun _=>hS,hW hS⟩))
 ·exact hs j hj
theorem Each.free {i:Nat} (hk:(done.setIfInBounds i true).getD k true=true) (ho:ops[i]?=some o)
  (h:∀K':Act->World->Prop,Shut (∀a w,eK P md ops Q T k n (done.setIfInBounds i true) a w->K' a w)->if Region.wanted o (yielded ops a.tmps)=true then Oper.wp P o a w K' Q else K' (a.put o.dst undef) w)
  (hs:Each P md ops Q T k n done a w rs):Each P md ops Q T k n done a w (i :: rs):=fun j hj=>by
 rcases List.mem_cons.1 hj with rfl | hj
 ·exact wpOp_step ho (fun K' hK=>h K' (fun a w hW=>hK a w ⟨fun e=>(by rw [hk] at e;cases e),hW⟩))
 ·exact hs j hj
theorem eK.end  (hr:Region.ready md ops done = []) (h:Q .normal a w):∀n,eK P md ops Q T k n done a w
 | 0=>⟨hr,h⟩
 | _+1=>⟨fun _=>h,by rw [hr];simp⟩
end
def ak (w:World) (v:Value) (z:Int) (k:Nat):Prop:=gg w v z∧Bd z.natAbs k
theorem ak.kp  (h:ak w v z k) (g:Kp w w'):ak w' v z k:=⟨h.1.kp g,h.2⟩
theorem ak.grown  (h:ak w v z k) (g:w.grownBy w' none):ak w' v z k:=⟨h.1.grown g,h.2⟩
theorem ak.i  (h:ak w v z k):aF w v z k:=h.1.AG h.2
theorem ak.more {k:Nat} (h:ak w v z k) (hl:k<=l):ak w v z l:=⟨h.1,h.2.more hl⟩
theorem ak.eq  (h:ak w v z k) (e:z=y):ak w v y k:=e▸h
theorem aF.open  (h:aF w v z k):∃b p n c,v = .agg #[.bool b,.slice p n c]∧aF w v z k:=by
 obtain ⟨b,s,X,rfl,h1,h2⟩:=h
 obtain ⟨p,n,c,rfl⟩:=h1.slice
 exact ⟨b,p,n,c,rfl,b,_,X,rfl,h1,h2⟩
theorem aF.bd'  (h:aF w v z k):Bd z.natAbs k:=by
 obtain ⟨b,s,X,rfl,h1,rfl⟩:=h
 rw [ee];exact h1.bd
theorem ai.grow  (h:ai w v z k) (g:w.grownBy w' none):ai w' v z k:=h.grown g
theorem ai.fS  (h:ai w v z k) (e:z=y):ai w v y k:=e▸h
def jY (w:World) (z:Int) (k:Nat) (e:Ending) (w':World):Prop:=∃b p n c,e = .returned (.agg #[.bool b,.slice p n c])∧ak w' (.agg #[.bool b,.slice p n c]) z k∧w.grownBy w' none
theorem eH.got  (h:eH w z k e w'):jY w z k e w':=by
 obtain ⟨v,rfl,h1,h2,h3⟩:=h
 obtain ⟨p,c,rfl,-⟩:=id h1
 exact ⟨_,p,_,c,rfl,⟨h1.nor,h2⟩,h3⟩
def fY (w:World) (z:Int) (k:Nat) (e:Ending) (w':World):Prop:=∃p n c b,e = .returned (.agg #[.slice p n c,.bool b])∧ai w' (.agg #[.slice p n c,.bool b]) z k∧w.grownBy w' none
theorem fY.mk  (h1:ai w' v z k) (h3:w.grownBy w' none):fY w z k (.returned v) w':=by
 obtain ⟨p,c,rfl,-⟩:=id h1
 exact ⟨p,_,c,_,rfl,h1,h3⟩
theorem eJ.got  (h:eJ w z k e w'):fY w z k e w':=by
 obtain ⟨v,rfl,h1,h2,h3⟩:=h
 exact .mk (h1.Ee h2) h3
section
variable {u:Value}{t:Int}{i:Nat}
theorem Wq (hx:aF w v z i) (hy:aF w u y j) (hi:i+j<=1000000) (ht:z*y=t):Calls prog 135 #[v,u] w (jY w t (i+j)):=ht▸(Mp hx hy hi).mono fun _ _ h=>h.got
theorem Ws (hx:aF w v z i) (hy:aF w u y j) (hi:i+j<=1000000) (ht:z+y=t):Calls prog 144 #[v,u] w (jY w t (i+j+1)):=ht▸(AO hx hy hi).mono fun _ _ h=>h.got
theorem Wt (hx:aF w v z i) (hi:i<=1000000) (ht : -z=t):Calls prog 124 #[v] w (jY w t i):=ht▸(Mj hx hi).mono fun _ _ h=>h.got
theorem Wu (hx:aF w v z i) (hi:i<=1000000):Calls prog 78 #[v] w (jY w z i):=(Mi hx hi).mono fun _ _ h=>h.got
theorem Ef (z:Int) (h1 : -9223372036854775808<=z) (h2:z<=9223372036854775807) (ht:z=t):Calls prog 104 #[.int .i64 z] w (jY w t 2):=ht▸(ME z w h1 h2).mono fun _ _ h=>h.got
def Eg (w:World) (z:Int) (k:Nat) (e:Ending) (w':World):Prop:=∃b p n c,e = .returned (.tuple #[.agg #[.bool b,.slice p n c],.int .i64 0])∧ak w' (.agg #[.bool b,.slice p n c]) z k∧w.grownBy w' none
theorem Wv (hx:aF w v z i) (hy:aF w u y j) (hi:i+j<=900000) (h0:y≠0) (h1:y∣z) (ht:z / y=t):Calls prog 125 #[v,u] w (Eg w t i):=by
 subst ht
 have hb:Bd (z / y).natAbs i:=hx.bd'.le (Int.natAbs_ediv_le_natAbs ..)
 refine (MB hx hy hi ⟨h0,Int.emod_eq_zero_of_dvd h1⟩).mono fun e w' h=>?_
 obtain ⟨v,rfl,h2,h3,h4⟩:=h
 obtain ⟨p,c,rfl,-⟩:=id h2
 exact ⟨_,p,_,c,rfl,⟨h2.nor,hb⟩,h4⟩
theorem Ww (hx:ai w v z i) (hy:ai w u y j) (hi:i+j<=1000000) (ht:z*y=t):Calls prog 36 #[v,u] w (fY w t (i+j)):=ht▸(Wx hx hy hi).mono fun _ _ h=>h.got
theorem Wy (hx:ai w v z i) (hy:ai w u y j) (hi:i+j<=1000000) (ht:z+y=t):Calls prog 81 #[v,u] w (fY w t (i+j+1)):=ht▸(Eh hx hy hi).mono fun _ _ h=>h.got
theorem Ei (hx:ai w v z i) (ht : -z=t):Calls prog 106 #[v] w (fY w t i):=by
 subst ht
 refine (Ej hx).mono fun e w' h=>?_
 obtain ⟨v,rfl,h1,h2⟩:=h
 exact .mk h1 h2
theorem vJ (z:Int) (h1 : -9223372036854775808<=z) (h2:z<=9223372036854775807) (ht:z=t):Calls prog 34 #[.int .i64 z] w (fY w t 2):=ht▸(Wz z w h1 h2).mono fun _ _ h=>h.got
theorem WA (hx:aF w v z i) (hi:i<=1000000):Calls prog 37 #[v] w (fY w z i):=(WB hx hi).mono fun _ _ h=>h.got
theorem WC (hx:ai w v z i) (hi:i<=1000000):Calls prog 35 #[v] w (jY w z i):=(WD hx hi).mono fun _ _ h=>h.got
theorem WE (k:Nat) (hx:ai w v z i) (hy:ai w u y j) (l0:i<=k) (l1:j<=k) (hk:k+k<=1000000) (ht:(Int.gcd z y:Int)=t):Calls prog 107 #[v,u] w (fY w t k):=by
 subst ht
 refine (Mh (hx.more l0) (hy.more l1) hk).mono fun e w' h=>?_
 obtain ⟨v,rfl,h1,h2⟩:=h
 exact .mk h1 h2
theorem WF (hx:ai w v z i){b:Bool} (hb:decide (z=0)=b):Calls prog 38 #[v] w (fun e w'=>e = .returned (.bool b)∧w.grownBy w' none):=hb▸WG hx
end
def fo (w:World) (v:Value) (q:Rat) (k:Nat):Prop:=∃b p n c b' p' n' c' z y,v = .agg #[.bool b,.slice p n c,.bool b',.slice p' n' c']∧aF w (.agg #[.bool b,.slice p n c]) z k∧aF w (.agg #[.bool b',.slice p' n' c']) y k∧aW z y=q
theorem fo.kp {q:Rat} (h:fo w v q k) (g:Kp w w'):fo w' v q k:=by
 obtain ⟨b,p,n,c,b',p',n',c',z,y,h1,h2,h3,h4⟩:=h
 exact ⟨b,p,n,c,b',p',n',c',z,y,h1,h2.kp g,h3.kp g,h4⟩
theorem fo.grown {q:Rat} (h:fo w v q k) (g:w.grownBy w' none):fo w' v q k:=h.kp (Kp.of g)
theorem fo.eq {q:Rat} (h:fo w v q k) (e:q=r):fo w v r k:=e▸h
theorem fo.more {q:Rat}{k:Nat} (h:fo w v q k) (hl:k<=l):fo w v q l:=by
 obtain ⟨b,p,n,c,b',p',n',c',z,y,h1,h2,h3,h4⟩:=h
 exact ⟨b,p,n,c,b',p',n',c',z,y,h1,h2.more hl,h3.more hl,h4⟩
def ek (w:World) (v:Value) (q:Rat) (k:Nat):Prop:=∃b p n c b' p' n' c',v = .agg #[.bool b,.slice p n c,.bool b',.slice p' n' c']∧ak w (.agg #[.bool b,.slice p n c]) q.num k∧ak w (.agg #[.bool b',.slice p' n' c']) (q.den:Int) k
theorem ek.kp {q:Rat} (h:ek w v q k) (g:Kp w w'):ek w' v q k:=by
 obtain ⟨b,p,n,c,b',p',n',c',h1,h2,h3⟩:=h
 exact ⟨b,p,n,c,b',p',n',c',h1,h2.kp g,h3.kp g⟩
theorem ek.grown {q:Rat} (h:ek w v q k) (g:w.grownBy w' none):ek w' v q k:=h.kp (Kp.of g)
theorem ek.q {q:Rat} (h:ek w v q k):fo w v q k:=by
 obtain ⟨b,p,n,c,b',p',n',c',h1,h2,h3⟩:=h
 exact ⟨b,p,n,c,b',p',n',c',_,_,h1,h2.i,h3.i,VP q⟩
theorem ek.eq {q:Rat} (h:ek w v q k) (e:q=r):ek w v r k:=e▸h
theorem ek.more {q:Rat}{k:Nat} (h:ek w v q k) (hl:k<=l):ek w v q l:=by
 obtain ⟨b,p,n,c,b',p',n',c',h1,h2,h3⟩:=h
 exact ⟨b,p,n,c,b',p',n',c',h1,h2.more hl,h3.more hl⟩
def vK (w:World) (q:Rat) (k:Nat) (e:Ending) (w':World):Prop:=∃b p n c b' p' n' c',e = .returned (.agg #[.bool b,.slice p n c,.bool b',.slice p' n' c'])∧ek w' (.agg #[.bool b,.slice p n c,.bool b',.slice p' n' c']) q k∧w.grownBy w' none
theorem vK.eq {q:Rat} (h:vK w q k e w') (hq:q=r):vK w r k e w':=hq▸h
def af (w:World) (v:Value) (q:Rat) (k:Nat):Prop:=∃p n c b p' n' c' b',v = .agg #[.slice p n c,.bool b,.slice p' n' c',.bool b']∧ai w (.agg #[.slice p n c,.bool b]) q.num k∧ai w (.agg #[.slice p' n' c',.bool b']) (q.den:Int) k
theorem af.kp {q:Rat} (h:af w v q k) (g:Kp w w'):af w' v q k:=by
 obtain ⟨p,n,c,b,p',n',c',b',h1,h2,h3⟩:=h
 exact ⟨p,n,c,b,p',n',c',b',h1,h2.kp g,h3.kp g⟩
theorem af.grown {q:Rat} (h:af w v q k) (g:w.grownBy w' none):af w' v q k:=h.kp (Kp.of g)
theorem af.eq {q:Rat} (h:af w v q k) (e:q=r):af w v r k:=e▸h
theorem af.more {q:Rat}{k:Nat} (h:af w v q k) (hl:k<=l):af w v q l:=by
 obtain ⟨p,n,c,b,p',n',c',b',h1,h2,h3⟩:=h
 exact ⟨p,n,c,b,p',n',c',b',h1,h2.more hl,h3.more hl⟩
def jp (w:World) (q:Rat) (k:Nat) (e:Ending) (w':World):Prop:=∃p n c b p' n' c' b',e = .returned (.agg #[.slice p n c,.bool b,.slice p' n' c',.bool b'])∧af w' (.agg #[.slice p n c,.bool b,.slice p' n' c',.bool b']) q k∧w.grownBy w' none
theorem jp.eq {q:Rat} (h:jp w q k e w') (hq:q=r):jp w r k e w':=hq▸h
theorem WH {fn:Func}{R:Ending->World->Prop}{r g:Nat}{x y:Value} (hres:fn.results = #[ResultVar.cell r 61]) (hd:a.defers = []) (hr:a.tmps[r]?=some (.pointer (some ⟨g,0,none⟩)))
  (c0:w.cell? ⟨g,0,none⟩=some x) (c1:w.cell? ⟨g,1,none⟩=some y) (h:R (.returned (.agg #[x,y])) w):bodyPost prog fn R .ret a w:=by
 simp [bodyPost,results,hres,hr,c0,c1,go_sem,h,hd]
end Go.Proofs.YtbjfgffibepmkaaGreat
