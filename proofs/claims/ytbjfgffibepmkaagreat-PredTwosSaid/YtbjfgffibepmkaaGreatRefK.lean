/- From a contract of a law -/
import Derived.Test.YtbjfgffibepmkaaGreatRows
import Derived.ProofKit
import Derived.OpenShut
import Derived.JoinedOf
import Derived.JoinedAt
import Derived.ChangeSlices
import Derived.ChangeSame
import Derived.Carry
import Derived.Test.YtbjfgffibepmkaaGreatRefA
namespace Go.Proofs.YtbjfgffibepmkaaGreat
open Go.RowKit
open Go.ChangeShapes Go.WideShapes Go.ChangeAt Go.RowKit
variable {W w w':World}{v:Value}{X k:Nat}
theorem Tryz.own:ownKnob Tryz.prog.godebug=none:=by kernel_rfl
theorem Tryz.laidOut:laidOutB Tryz.prog=true:=by kernel_rfl
section
variable {H:Type}{enc:TypeId×Value->H}{P:Program}
theorem EI (hl:laidOutB P=true){W W':World} (hb:Below W.heap.size W W'):∀(ts:List TypeId) (vs:List Value) (ds:List (DataW H)) (ps:List MemPlace),
  (∀t ∈ ts,P.readableRec t=true∧t<P.types.size)->DataW.TrodAll enc P W 0 (fun _=>true) true ts vs ds ps->(∀x ∈ ps,x.block<W.heap.size)->
  DataW.TrodAll enc P W' 0 (fun b=>decide (b<W.heap.size)) true ts vs ds ps
 | [],vs,ds,ps,_,h,_=>by
  obtain ⟨rfl,rfl,rfl⟩:=trodAll_nil h
  exact trodAll_mk0
 | t :: ts,vs,ds,ps,hr,h,hp=>by
  obtain ⟨v,vs',d,ds',p,q,rfl,rfl,rfl,h1,h2⟩:=trodAll_cons h
  have h3:=Below.trod hl (hr t (by simp)).1 (hr t (by simp)).2 h1 hb (fun x hx=>hp x (by simp [hx]))
  have h4:=EI hl hb ts vs' ds' q (fun t' ht=>hr t' (by simp [ht])) h2 (fun x hx=>hp x (by simp [hx]))
  exact trodAll_cons_mk h3 h4
theorem Bb {f:Func}{s:ChangeSpec}{W':World}{args:Array Value}{ds gs:List (DataW H)}{before:List MemPlace} (hl:laidOutB P=true)
  (hs:s.vars = []) (hb4:P.underlying 4=some .bool) (ht:∀t ∈ f.params.toList,P.readableRec t=true∧t<P.types.size)
  (hfn:∀ds:List (DataW H),ds.length=f.params.toList.length->s.fn H ds = { results:=[.lit (.bool true)],args:=ds })
  (hW:DataW.Whole enc P f.params.toList s.vars false W args.toList ds gs before) (hb:W.grownBy W' none) (hr:f.resultTypes = #[4]:=by kernel_rfl) :
  s.post enc P f false true false false W args (.bool true) W':=by
 have hW':=hW
 obtain ⟨p,q,hA,hV,rfl,hz,hn⟩:=hW
 have hlen:∀(ts:List TypeId) (vs:List Value) (ds:List (DataW H)) (ps:List MemPlace),DataW.TrodAll enc P W 0 (fun _=>true) true ts vs ds ps->ds.length=ts.length:=by
  intro ts
  induction ts with
  | nil=>intro vs ds ps h;obtain ⟨_,rfl,_⟩:=trodAll_nil h;rfl
  | cons t ts ih=>
   intro vs ds ps h
   obtain ⟨v,vs',d,ds',p,q,rfl,rfl,rfl,h1,h2⟩:=trodAll_cons h
   simp [ih _ _ _ h2]
 rw [hs] at hV
 obtain ⟨rfl,rfl⟩:=trodVars_none hV
 have hbel:=below_grown hb
 have e:=hfn ds (hlen _ _ _ _ hA)
 refine ⟨ds,[],_,[],p,[],hW',?_,?_,?_,World.keptBut_mono (fun x hx=>⟨hx,.inr (.inl (by simpa using hx))⟩) (hbel.frame _),fun h=>by cases h⟩
 ·rw [List.append_nil,e,hr]
  exact trodAll_mk1 (shut_bool hb4 true)
 ·rw [List.append_nil,e]
  exact EI hl hbel _ _ _ _ ht hA (fun x hx=>hW'.lt x (by simpa using hx))
 ·rw [hs,List.append_nil,e]
  exact rfl
theorem Wp {base:Nat}{held:Bool}{fuel:Nat}{y:DataW H×List MemPlace} (h22:P.underlying 25=some (.slice 119)) (h52:P.underlying 119=some (.int .u32))
  (hf:DataW.trod enc P W base (fun _=>true) held fuel 25 [v]=some y) (hc:P.cellsOf 119=1:=by kernel_rfl):∃xs,Sl W .u32 v xs∧All 4294967296 xs:=by
 rcases open_ints h22 h52 hc hf with ⟨hcs,_⟩ | ⟨a,len,cap,zs,hcs,_,hl,hm,hz,_,hcell,hwz⟩
 ·obtain rfl:v = .slice none 0 0:=by simpa using hcs
  exact ⟨[],Sl.nil _ _,All.nil _⟩
 ·obtain rfl:v = .slice (some a) len cap:=by simpa using hcs
  simp only [if_true] at hz
  have hwf:∀n ∈ zs,0<=n∧n<=4294967295:=fun n hn=>by
   have:=hwz n hn
   simpa [Lit.wf,IntKind.min,IntKind.max,IntKind.signed,IntKind.bits] using this
  have hlen:((zs.take len).map Int.toNat).length=len:=by simp;omega
  have YX:∀j,j<len->((nth ((zs.take len).map Int.toNat) j:Nat):Int)=zs.getD j 0:=fun j hj=>by
   have hjz:j<zs.length:=by omega
   have h0:=hwf zs[j] (List.getElem_mem hjz)
   simp [nth,hj,hjz]
   omega
  refine ⟨(zs.take len).map Int.toNat,⟨some a,cap,by rw [hlen],by omega,by simpa [maxLen] using hm,?_⟩,fun x hx=>?_⟩
  ·by_cases h0:len=0
   ·exact .inl (List.eq_nil_of_length_eq_zero (by omega))
   ·obtain ⟨b,off,spot⟩:=a
    have hspot:spot=none:=by simpa [Addr.add] using World.cell?_spot (hcell 0 (by omega))
    subst hspot
    refine .inr ⟨b,off,rfl,?_,fun j hj=>?_⟩
    ·have:=World.block_lt_of_cell? _ _ (hcell 0 (by omega))
     simpa [Addr.add] using this
    ·rw [hlen] at hj
     rw [YX j hj,<- Addr.add_lit]
     exact hcell j (by omega)
  ·obtain ⟨n,hn,rfl⟩:=List.mem_map.1 hx
   have:=hwf n (List.mem_of_mem_take hn)
   omega
end
def cC (w:World) (v:Value) (X k:Nat):Prop:=Sl w .i64 v (am 10000 X)∧Bd X k
theorem cC.grown  (h:cC w v X k) (g:w.grownBy w' none):cC w' v X k:=⟨h.1.grown g (.inl rfl),h.2⟩
theorem cC.len  (h:cC w v X k):(am 10000 X).length<=3*k:=Ek h.2
def gN (w:World) (X k:Nat) (e:Ending) (w':World):Prop:=∃v,e = .returned v∧Own w' 3 .i64 w.heap.size v (am 10000 X)∧Bd X k∧w.grownBy w' none
theorem gN.of {e:Ending} (h:jZ w X e w') (hb:Bd X k):gN w X k e w':=by
 obtain ⟨v,h1,h2,h3⟩:=h
 exact ⟨v,h1,h2,hb,h3⟩
section
variable {u:Value}{Y i j:Nat}
theorem Xs (hx:cC w v X i) (hy:cC w u Y j) (hi:i+j<=1000000:=by omega):Calls Tryz.prog 127 #[v,u] w (gN w (X+Y) (i+j+1)):=
 (WZ hx.1 hy.1 (by have:=hx.len;omega) (by have:=hy.len;omega)).mono fun _ _ h=>gN.of h (hx.2.add hy.2)
theorem rx (hx:cC w v X i) (hy:cC w u Y j) (hle:Y<=X) (hi:i<=1000000:=by omega):Calls Tryz.prog 129 #[v,u] w (gN w (X-Y) i):=
 (Er hx.1 hy.1 (by have:=hx.len;omega) hle).mono fun _ _ h=>gN.of h (hx.2.sub Y)
theorem Xt (hx:cC w v X i) (hy:cC w u Y j) (hi:i+j<=1000000:=by omega):Calls Tryz.prog 76 #[v,u] w (gN w (X*Y) (i+j)):=
 (Xe hx.1 hy.1 (by have:=hx.len;omega) (by have:=hy.len;omega)).mono fun _ _ h=>gN.of h (hx.2.mul hy.2)
def Xu (w:World) (Q R i:Nat) (e:Ending) (w':World):Prop:=∃v u,e = .returned (.tuple #[v,u])∧Own w' 3 .i64 w.heap.size v (am 10000 Q)∧Own w' 3 .i64 w.heap.size u (am 10000 R)∧Bd Q i∧Bd R i∧w.grownBy w' none
theorem AD (hx:cC w v X i) (hy:cC w u Y j) (hi:i+j<=1000000) (hY:0<Y):Calls Tryz.prog 146 #[v,u] w (Xu w (X / Y) (X % Y) i):=
 (Xl hx.1 hy.1 (by have:=hx.len;omega) (by have:=hy.len;omega) hY).mono fun _ _ ⟨a,b,h1,h2,h3,h4⟩=>⟨a,b,h1,h2,h3,hx.2.div Y,hx.2.mod Y,h4⟩
theorem Xv {n:Nat} (h:n<32*k):Bd (2 ^ n) k:=by
 unfold Bd
 rw [show (4294967296:Nat)=2 ^ 32 from rfl,<- Nat.pow_mul]
 exact Nat.pow_lt_pow_right (by omega) h
theorem Xw (n k:Nat) (hn:n<=1000000:=by omega) (hk:n<32*k:=by omega):Calls Tryz.prog 74 #[.int .i64 n] w (gN w (2 ^ n) k):=
 (Xr n w hn).mono fun _ _ h=>gN.of h (Xv hk)
theorem ry (hx:cC w v X i) (hy:cC w u Y j):Calls Tryz.prog 128 #[v,u] w fun e w'=>e = .returned (.int .i64 (cT X Y))∧w.grownBy w' none:=
 (Eq hx.1 hy.1).mono fun _ _ ⟨h,n,hw⟩=>⟨h,by rw [hw];exact ic _ _ _⟩
end
end Go.Proofs.YtbjfgffibepmkaaGreat
