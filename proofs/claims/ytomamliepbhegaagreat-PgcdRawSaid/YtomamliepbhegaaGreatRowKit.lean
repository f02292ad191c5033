/- From a contract of a law -/
import Derived.Test.YtomamliepbhegaaGreatRows
import Derived.Test.YtomamliepbhegaaGreatBase
import Derived.ProofKit
import Derived.OpenShut
import Derived.JoinedOf
import Derived.JoinedAt
import Derived.ChangeSlices
import Derived.ChangeSame
import Derived.Carry
namespace Go.Proofs.YtomamliepbhegaaGreat
open Go.ChangeShapes Go.WideShapes Go.ChangeAt Go.RowKit
variable {W:World}
theorem Tryz.own:ownKnob Tryz.prog.godebug=none:=by kernel_rfl
theorem Tryz.laidOut:laidOutB Tryz.prog=true:=by kernel_rfl
section
variable {H:Type}{enc:TypeId×Value->H}{P:Program}
theorem Kg (hl:laidOutB P=true){W W':World} (hb:Below W.heap.size W W'):∀(ts:List TypeId) (vs:List Value) (ds:List (DataW H)) (ps:List MemPlace),
  (∀t ∈ ts,P.readableRec t=true∧t<P.types.size)->DataW.TrodAll enc P W 0 (fun _=>true) true ts vs ds ps->(∀x ∈ ps,x.block<W.heap.size)->
  DataW.TrodAll enc P W' 0 (fun b=>decide (b<W.heap.size)) true ts vs ds ps
 | [],vs,ds,ps,_,h,_=>by
  obtain ⟨rfl,rfl,rfl⟩:=trodAll_nil h
  exact trodAll_mk0
 | t :: ts,vs,ds,ps,hr,h,hp=>by
  obtain ⟨v,vs',d,ds',p,q,rfl,rfl,rfl,h1,h2⟩:=trodAll_cons h
  have h3:=Below.trod hl (hr t (by simp)).1 (hr t (by simp)).2 h1 hb (fun x hx=>hp x (by simp [hx]))
  have h4:=Kg hl hb ts vs' ds' q (fun t' ht=>hr t' (by simp [ht])) h2 (fun x hx=>hp x (by simp [hx]))
  exact trodAll_cons_mk h3 h4
theorem Rx {f:Func}{s:ChangeSpec}{W':World}{args:Array Value}{ds gs:List (DataW H)}{before:List MemPlace} (hl:laidOutB P=true)
  (hs:s.vars = []) (hb4:P.underlying 4=some .bool) (ht:∀t ∈ f.params.toList,P.readableRec t=true∧t<P.types.size)
  (hfn:∀ds:List (DataW H),ds.length=f.params.toList.length->s.fn H ds = { results:=[.lit (.bool true)],args:=ds })
  (hW:DataW.Whole enc P f.params.toList s.vars false W args.toList ds gs before) (hb:W.grownBy W' none) (hr:f.resultTypes = #[4]:=by kernel_rfl) :
  s.post enc P f false true false false W args (.bool true) W':=by
 have hW':=hW
 obtain ⟨p,q,hA,hV,rfl,hz,hn⟩:=hW
 have hlen:∀(ts:List TypeId) (vs:List Value) (ds:List (DataW H)) (ps:List MemPlace),DataW.TrodAll enc P W 0 (fun _=>true) true ts vs ds ps->ds.length=ts.length:=by
  intro ts
  induction ts with
  | nil=>intro vs ds ps h;obtain ⟨_,rfl,_⟩:=trodAll_nil h;rfl
  | cons t ts ih=>
   intro vs ds ps h
   obtain ⟨v,vs',d,ds',p,q,rfl,rfl,rfl,h1,h2⟩:=trodAll_cons h
   simp [ih _ _ _ h2]
 rw [hs] at hV
 obtain ⟨rfl,rfl⟩:=trodVars_none hV
 have hbel:=below_grown hb
 have e:=hfn ds (hlen _ _ _ _ hA)
 refine ⟨ds,[],_,[],p,[],hW',?_,?_,?_,World.keptBut_mono (fun x hx=>⟨hx,.inr (.inl (by simpa using hx))⟩) (hbel.frame _),fun h=>by cases h⟩
 ·rw [List.append_nil,e,hr]
  exact trodAll_mk1 (shut_bool hb4 true)
 ·rw [List.append_nil,e]
  exact Kg hl hbel _ _ _ _ ht hA (fun x hx=>hW'.lt x (by simpa using hx))
 ·rw [hs,List.append_nil,e]
  exact rfl
theorem acG {base:Nat}{held:Bool}{v:Value}{fuel:Nat}{y:DataW H×List MemPlace} (h22:P.underlying 55=some (.slice 105)) (h52:P.underlying 105=some (.int .u32))
  (hf:DataW.trod enc P W base (fun _=>true) held fuel 55 [v]=some y) (hc:P.cellsOf 105=1:=by kernel_rfl):∃xs,Sl W .u32 v xs∧All 4294967296 xs:=by
 rcases open_ints h22 h52 hc hf with ⟨hcs,_⟩ | ⟨a,len,cap,zs,hcs,_,hl,hm,hz,_,hcell,hwz⟩
 ·obtain rfl:v = .slice none 0 0:=by simpa using hcs
  exact ⟨[],Sl.nil _ _,All.nil _⟩
 ·obtain rfl:v = .slice (some a) len cap:=by simpa using hcs
  simp only [if_true] at hz
  have hwf:∀n ∈ zs,0<=n∧n<=4294967295:=fun n hn=>by
   have:=hwz n hn
   simpa [Lit.wf,IntKind.min,IntKind.max,IntKind.signed,IntKind.bits] using this
  have hlen:((zs.take len).map Int.toNat).length=len:=by simp;omega
  have aeW:∀j,j<len->((nth ((zs.take len).map Int.toNat) j:Nat):Int)=zs.getD j 0:=fun j hj=>by
   have hjz:j<zs.length:=by omega
   have h0:=hwf zs[j] (List.getElem_mem hjz)
   simp [nth,hj,hjz]
   omega
  refine ⟨(zs.take len).map Int.toNat,⟨some a,cap,by rw [hlen],by omega,by simpa [maxLen] using hm,?_⟩,fun x hx=>?_⟩
  ·by_cases h0:len=0
   ·exact .inl (List.eq_nil_of_length_eq_zero (by omega))
   ·obtain ⟨b,off,spot⟩:=a
    have hspot:spot=none:=by simpa [Addr.add] using World.cell?_spot (hcell 0 (by omega))
    subst hspot
    refine .inr ⟨b,off,rfl,?_,fun j hj=>?_⟩
    ·have:=World.block_lt_of_cell? _ _ (hcell 0 (by omega))
     simpa [Addr.add] using this
    ·rw [hlen] at hj
     rw [aeW j hj,<- Addr.add_lit]
     exact hcell j (by omega)
  ·obtain ⟨n,hn,rfl⟩:=List.mem_map.1 hx
   have:=hwf n (List.mem_of_mem_take hn)
   omega
end
end Go.Proofs.YtomamliepbhegaaGreat
