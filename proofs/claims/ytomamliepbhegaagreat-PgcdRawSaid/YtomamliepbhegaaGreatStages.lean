/- A region that draws its -/
import Derived.Test.YtomamliepbhegaaGreatIntA
namespace Go.Proofs.YtomamliepbhegaaGreat
open Go.RowKit
variable {done:Array Bool}{i j n:Nat}{C rs:List Nat}{o oi:Oper}{v:Value}{a:Act}{w:World}
section
variable {P:Program}{ops:Array Oper}{Q:Exit->Act->World->Prop}{md:Region.Mode}{T:World->Prop}{k:Nat}
def eU (P:Program) (md:Region.Mode) (ops:Array Oper) (Q:Exit->Act->World->Prop) (T:World->Prop) (k:Nat):Nat->Array Bool->Act->World->Prop
 | 0,done,a,w=>Region.ready md ops done = []∧Q .normal a w
 | n+1,done,a,w=>(Region.ready md ops done = []->Q .normal a w) ∧
   ∀i ∈ Region.ready md ops done,wpOp P ops Q i (fun a' w'=>((done.setIfInBounds i true).getD k true=false->T w')∧eU P md ops Q T k n (done.setIfInBounds i true) a' w') a w
theorem eU.any:∀(n:Nat) (done:Array Bool) (a:Act) (w:World),eU P md ops Q T k n done a w->wpAny P md ops Q n done a w
 | 0,_,_,_,h=>h
 | n+1,_,_,_,h=>⟨h.1,fun i hi=>wpOp_mono (fun a' w' h'=>eU.any n _ a' w' h'.2) (h.2 i hi)⟩
def tW (md:Region.Mode) (ops:Array Oper) (j i:Nat):Bool:=((ops[j]?).map fun o=>o.after.toList.any fun e=>Region.binds md e && e.on == i).getD false
theorem yS  (h:tW md ops j i=true) (hi:done.getD i true=false):j ∉ Region.ready md ops done:=fun hj=>by
 obtain ⟨-,o,ho,hall⟩:=mem_ready.1 hj
 simp only [tW,ho,Option.map_some,Option.getD_some,List.any_eq_true,Bool.and_eq_true,beq_iff_eq] at h
 obtain ⟨e,he,hb,rfl⟩:=h
 have h1:=hall e (by simpa using he) hb
 have hlt:e.on<done.size:=by
  rcases Nat.lt_or_ge e.on done.size with h' | h'
  ·exact h'
  ·simp [Array.getElem?_eq_none h'] at hi
 simp [hlt] at h1 hi
 rw [hi] at h1
 cases h1
theorem yT  (hne:i≠j) (h:done.getD j true=false):(done.setIfInBounds i true).getD j true=false:=by
 rw [getD_set_ne true hne];exact h
def Behind (md:Region.Mode) (ops:Array Oper) (i:Nat) (C:List Nat):Bool:=C.all fun c=>(i :: C).any fun d=>tW md ops c d
theorem Km  (h:Behind md ops i C=true) (hi:done.getD i true=false) (hC:∀c,c ∈ C->done.getD c true=false) (hj:j ∈ Region.ready md ops done):j ∉ C:=fun hm=>by
 have h1:=List.all_eq_true.1 h j hm
 obtain ⟨d,hd,hw⟩:=List.any_eq_true.1 h1
 rcases List.mem_cons.1 hd with rfl | hd
 ·exact yS hw hi hj
 ·exact yS hw (hC d hd) hj
theorem eU.first  (hi:ops[i]?=some oi) (hsel:∀(j:Nat) (o:Oper) cs b,ops[j]?=some o->o.op≠.select cs b)
  (hQ:∀c a w,Q (.panic c) (a.put oi.dst v) w->Q (.panic c) a w) (hb:Behind md ops i C=true) (hkC:k ∈ C) :
  ∀(n:Nat) (done:Array Bool) (a:Act) (w:World),
   (∀j oj,ops[j]?=some oj->j≠i->done.getD j true=false->(∀e ∈ oj.after,Region.binds md e=true->e.on≠i)->oi.apart ops oj=true)->
   i ∈ Region.ready md ops done->(∀c,c ∈ C->done.getD c true=false)->YieldsIf P ops T oi v a->T w->
   eU P md ops Q T k n (done.setIfInBounds i true) (a.put oi.dst v) w->eU P md ops Q T k (n+1) done a w:=by
 intro n
 induction n with
 | zero=>
  intro done a w _ hr _ hy hT H
  refine ⟨fun h=>(by rw [h] at hr;cases hr),fun j hj=>?_⟩
  by_cases hji:j=i
  ·subst hji;exact hy.wpOp hi hT ⟨fun _=>hT,H⟩
  ·have:=ready_mono hj hji
   rw [H.1] at this
   cases this
 | succ n ih=>
  intro done a w hfree hr hC hy hT H
  have hiu:done.getD i true=false:=(mem_ready.1 hr).1
  refine ⟨fun h=>(by rw [h] at hr;cases hr),fun j hj=>?_⟩
  by_cases hji:j=i
  ·subst hji;exact hy.wpOp hi hT ⟨fun _=>hT,H⟩
  ·have hjC:=Km hb hiu hC hj
   have hiC:=Km hb hiu hC hr
   have hjk:j≠k:=fun e=>hjC (e▸hkC)
   have hik:i≠k:=fun e=>hiC (e▸hkC)
   have h1:=H.2 j (ready_mono hj hji)
   obtain ⟨hju,oj,hoj,hall⟩:=mem_ready.1 hj
   have hno:∀e ∈ oj.after,Region.binds md e=true->e.on≠i:=fun e he hb heq=>
    yS (md:=md) (ops:=ops) (j:=j) (i:=i) (by simp only [tW,hoj,Option.map_some,Option.getD_some,List.any_eq_true,Bool.and_eq_true,beq_iff_eq];exact ⟨e,by simpa using he,hb,heq⟩) hiu hj
   have h2:=wpOp_putIf hoj (hfree j oj hoj hji hju hno) (fun cs b=>hsel i oi cs b hi) (fun cs b=>hsel j oj cs b hoj) hQ hy h1
   refine wpOp_mono (fun a' w' h3=>?_) h2
   have hT':T w':=h3.2.1 (yT hjk (yT hik (hC k hkC)))
   refine ⟨fun _=>hT',ih (done.setIfInBounds j true) a' w' (fun q oq hq hqi hu hn=>?_) (ready_mono hr (Ne.symm hji)) (fun c hc=>yT (fun e=>hjC (e▸hc)) (hC c hc)) h3.1 hT' ?_⟩
   ·refine hfree q oq hq hqi ?_ hn
    by_cases e:j=q
    ·subst e;exact hju
    ·rw [getD_set_ne true e] at hu;exact hu
   ·rw [Array.setIfInBounds_comm _ _ hji];exact h3.2.2
theorem eU.take (C:List Nat) (hi:ops[i]?=some oi)
  (hs:Region.noSelect ops=true) (hf:Region.free md ops done i=true) (hr:(Region.ready md ops done).contains i=true) (hw:(Behind md ops i C && C.contains k && C.all fun c=>!done.getD c true)=true)
  (hQ:∀c a w,Q (.panic c) (a.put oi.dst v) w->Q (.panic c) a w) (hy:YieldsIf P ops T oi v a) (hT:T w)
  (h:eU P md ops Q T k n (done.setIfInBounds i true) (a.put oi.dst v) w):eU P md ops Q T k (n+1) done a w:=by
 simp only [Bool.and_eq_true] at hw
 exact eU.first hi (Region.noSelect_spec hs) hQ hw.1.1 (by simpa using hw.1.2) n done a w (Region.free_spec hi hf) (by simpa using hr) (fun c hc=>by simpa using List.all_eq_true.1 hw.2 c hc) hy hT h
theorem eU.start {id:Nat} (k:Nat) (hm:P.follows .mixedOrders=true) (hT:T w.drew) (h:T w.drew->eU P .any ops Q T k ops.size (Array.replicate ops.size false) a w.drew):(Code.region id ops true).wp P Q a w:=
 wp_region_any hm (eU.any _ _ _ _ (h hT))
def Each (P:Program) (md:Region.Mode) (ops:Array Oper) (Q:Exit->Act->World->Prop) (T:World->Prop) (k n:Nat) (done:Array Bool) (a:Act) (w:World) (rs:List Nat):Prop:=
 ∀i ∈ rs,wpOp P ops Q i (fun a' w'=>((done.setIfInBounds i true).getD k true=false->T w')∧eU P md ops Q T k n (done.setIfInBounds i true) a' w') a w
theorem Each.nil :Each P md ops Q T k n done a w []:=fun _ h=>by cases h
theorem eU.ready  (hr:Region.ready md ops done=rs) (hne:rs ≠ []) (h:Each P md ops Q T k n done a w rs):eU P md ops Q T k (n+1) done a w:=
 ⟨fun h0=>absurd (hr▸h0) hne,hr▸h⟩
theorem Each.held  (ho:ops[i]?=some o)
  (h:∀K':Act->World->Prop,Shut (∀a w,T w->(T w->eU P md ops Q T k n (done.setIfInBounds i true) a w)->K' a w)->if Region.wanted o (yielded ops a.tmps)=true then Oper.wp P o a w K' Q else K' (a.put o.dst undef) w)
  (hs:Each P md ops Q T k n done a w rs):Each P md ops Q T k n done a w (i :: rs):=fun j hj=>by
 rcases List.mem_cons.1 hj with rfl | hj
 ·exact wpOp_step ho (fun K' hK=>h K' (fun a w hS hW=>hK a w ⟨fun _=>hS,hW hS⟩))
 ·exact hs j hj
theorem Each.free  (hk:(done.setIfInBounds i true).getD k true=true) (ho:ops[i]?=some o)
  (h:∀K':Act->World->Prop,Shut (∀a w,eU P md ops Q T k n (done.setIfInBounds i true) a w->K' a w)->if Region.wanted o (yielded ops a.tmps)=true then Oper.wp P o a w K' Q else K' (a.put o.dst undef) w)
  (hs:Each P md ops Q T k n done a w rs):Each P md ops Q T k n done a w (i :: rs):=fun j hj=>by
 rcases List.mem_cons.1 hj with rfl | hj
 ·exact wpOp_step ho (fun K' hK=>h K' (fun a w hW=>hK a w ⟨fun e=>(by rw [hk] at e;cases e),hW⟩))
 ·exact hs j hj
theorem eU.end  (hr:Region.ready md ops done = []) (h:Q .normal a w):∀n,eU P md ops Q T k n done a w
 | 0=>⟨hr,h⟩
 | _+1=>⟨fun _=>h,by rw [hr];simp⟩
end
end Go.Proofs.YtomamliepbhegaaGreat
