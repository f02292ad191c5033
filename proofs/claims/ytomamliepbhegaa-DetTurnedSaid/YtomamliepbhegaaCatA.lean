/- A row put behind a row of the call's own; the row that is made by zeros behind nothing. A slice with a third index: a[:n:n] of a row of n. -/
import Derived.Test.YtomamliepbhegaaPolC
import Derived.Lib.AppendZerosOnto
namespace Go.Proofs.Ytomamliepbhegaa
open Go.RowKit
section
variable {sz n:Nat}{e:TypeId}{w w':World}{v:Value}{xs:List Value}
set_option maxRecDepth 100000 in
theorem wW (t ty:TypeId){i0:TypeInfo}{z:Value}{bytes:Nat} (hU:Try.prog.underlying t=some (.slice e)) (hi:Try.prog.info? e=some i0) (hz0:i0.zero=some z) (hz1:i0.size=sz) (hz2:i0.bytes=bytes) (hzs:z.cells.size=sz) (hsz:0<sz) (hbb:bytes<=1000) (hzn:∀x,x ∈ z.cells.toList->KT x)
  (h:cu sz e w v n xs) (a:Addr) (m c:Nat) (news:List Value) (hl1:news.length=m*sz) (hm:0<m) (hnews:∀(j:Nat) u,news[j]?=some u->w.cell? (a.add j)=some u) (hone:∀u,u ∈ news->u.oneCell'=true) (hnn:∀u,u ∈ news->KT u) (hn:n+m<=1000000) :
  ∃v' w',(Builtin.append_ #[t,t] ty #[v,.slice (some a) m c]).run Try.prog w = .ok v' w'∧cu sz e w' v' (n+m) (xs ++ news)∧w.grownBy w' v.ownBlock∧(v'.ownBlock=v.ownBlock∨v'.ownBlock=some w.heap.size):=by
 have hby:(n+m)*bytes<=140737488355328:=Nat.le_trans (Nat.mul_le_mul hn hbb) (by decide)
 obtain ⟨v',w',hr,ho,hg,-,hb⟩:=run_append_own_at (P:=Try.prog) (w:=w) 0 t ty e i0 z sz bytes hU hi hz0 hz1 hz2 hzs hsz v n xs h.1 a m c news hl1 hnews hone (by simp only [maxLen];omega) hby (by omega)
 refine ⟨v',w',hr,⟨ho,?_⟩,hg,hb⟩
 have hL:∀x,x ∈ xs->KT x:=fun x hx=>by
  rcases h.1.2 with ⟨-,h2⟩ | ⟨g,cap,cur,hv,-,hh,-,-,-,h6⟩
  ·have:=h.1.1
   rw [h2,Nat.zero_mul] at this
   rw [List.eq_nil_of_length_eq_zero this] at hx;cases hx
  ·rw [<- h6] at hx
   exact h.2 g cur _ _ (by rw [hv];rfl) hh x (List.mem_of_mem_take hx)
 subst hz1
 rcases h.1.2 with ⟨rfl,h2⟩ | ⟨g,cap,cur,rfl,hb',hh,h3,h4,h5,h6⟩
 ·subst h2
  have hr2:=run_append_nil (P:=Try.prog) (w:=w) t ty e i0 z hU hi hz0 a m c news hl1 hnews (by omega) (by omega) (by rw [hz2];have hb:=hby;simp only [Nat.zero_add] at hb;omega)
  rw [hr] at hr2
  injection hr2 with e1 e2
  subst e1 e2
  intro g cur e' q hgg de x hx
  simp only [Value.ownBlock,Option.some.injEq] at hgg
  subst hgg
  rw [show w.heap.size=w.drew.heap.size from rfl,heap_alloc_new] at de
  cases de
  simp only [Array.toList_append,List.mem_append] at hx
  rcases hx with hx | hx
  ·exact hnn x (by simpa using hx)
  ·exact iB hzn (by omega) _ x hx
 ·by_cases hroom:n+m<=cap
  ·have hfit:n*i0.size+news.length<=cur.size:=by
    rw [h5,hl1,<- Nat.add_mul];exact Nat.mul_le_mul_right _ hroom
   have hr2:=run_append_room (P:=Try.prog) (w:=w) t ty e i0 hU hi g n cap cur hh a m c news hl1 hnews hone hroom hfit
   rw [hr] at hr2
   injection hr2 with e1 e2
   subst e1 e2
   intro g' cur' e' q hgg de x hx
   simp only [Value.ownBlock,Option.some.injEq] at hgg
   subst hgg
   rw [setRow_heap w g cur _ _ _ hh] at de
   cases de
   simp only [List.mem_append] at hx
   rcases hx with (hx | hx) | hx
   ·exact h.2 g cur _ _ rfl hh x (List.mem_of_mem_take hx)
   ·exact hnn x hx
   ·exact h.2 g cur _ _ rfl hh x (List.mem_of_mem_drop hx)
  ·have holds:∀(j:Nat) u,xs[j]?=some u->w.cell? (Addr.add ⟨g,0,none⟩ j)=some u:=h.1.cells (g:=g) rfl
   have hr2:=run_append_grow (P:=Try.prog) (w:=w) t ty e i0 z hU hi hz0 ⟨g,0,none⟩ n cap xs h.1.1 holds a m c news hl1 hnews (by omega) (by omega) (growslice_fits (by omega) (by rw [hz2];exact hby))
   rw [hr] at hr2
   injection hr2 with e1 e2
   subst e1 e2
   intro g' cur' e' q hgg de x hx
   simp only [Value.ownBlock,Option.some.injEq] at hgg
   subst hgg
   rw [show w.heap.size=w.drew.heap.size from rfl,heap_alloc_new] at de
   cases de
   simp only [Array.toList_append,List.mem_append] at hx
   rcases hx with (hx | hx) | hx
   ·exact hL x (by simpa using hx)
   ·exact hnn x (by simpa using hx)
   ·exact iB hzn (by omega) _ x hx
end
theorem qt {Q:Nat->List Value->Prop}:∀{m:Nat},(∀i,i<m->∃l,Q i l)->∃rows:List (List Value),rows.length=m∧∀i r,rows[i]?=some r->Q i r
 | 0,_=>⟨[],rfl,fun i r h=>by simp at h⟩
 | m+1,h=>by
  obtain ⟨rows,h1,h2⟩:=qt (m:=m) fun i hi=>h i (by omega)
  obtain ⟨l,hl⟩:=h m (by omega)
  refine ⟨rows ++ [l],by simp [h1],fun i r hr=>?_⟩
  rw [List.getElem?_append] at hr
  split at hr
  ·exact h2 i r hr
  ·have:=(List.getElem?_eq_some_iff.1 hr).1
   simp at this
   obtain rfl:i=m:=by omega
   rw [h1,Nat.sub_self] at hr
   simp at hr
   exact hr▸hl
theorem mQ {sz:Nat} (hs:0<sz):∀{rows:List (List Value)},(∀r,r ∈ rows->r.length=sz)->∀{j:Nat}{u:Value},rows.flatten[j]?=some u->∃i k r,j=i*sz+k∧rows[i]?=some r∧r[k]?=some u
 | [],_,j,u,h=>by simp at h
 | r :: rows,hl,j,u,h=>by
  have h0:=hl r (List.mem_cons_self ..)
  rw [List.flatten_cons,List.getElem?_append] at h
  split at h
  ·exact ⟨0,j,r,by omega,rfl,h⟩
  ·obtain ⟨i,k,r',h1,h2,h3⟩:=mQ hs (fun r hr=>hl r (List.mem_cons_of_mem _ hr)) h
   exact ⟨i+1,k,r',by rw [Nat.succ_mul];omega,by simpa using h2,h3⟩
end Go.Proofs.Ytomamliepbhegaa
namespace Go.Proofs.Ytomamliepbhegaa.Sym
open Go.RowKit
end Go.Proofs.Ytomamliepbhegaa.Sym
