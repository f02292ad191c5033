/- Rows of whole numbers an -/
import Derived.Test.YtomamliepbhegaaGreatPolB
import Derived.Test.YtomamliepbhegaaGreatRefV
namespace Go.Proofs.YtomamliepbhegaaGreat.Sym
open Go.RowKit
variable {i j k:Nat}{f:Nat->Int}{w:World}{v:Value}{z:Int}{l:List Value}{q:Rat}
def upto (j:Nat) (f:Nat->Int) (i:Nat):Int:=if i<j then f i else 0
theorem od  (h:i≠j):upto (j+1) f i=upto j f i:=by
 unfold upto
 split <;> split <;> first | rfl | omega
theorem oe (j:Nat) (f:Nat->Int):upto (j+1) f j=f j:=if_pos (Nat.lt_succ_self j)
theorem gx  (h:i<j):upto j f i=f i:=if_pos h
theorem ai.re {k l:Nat} (h:ai w v z k) (hb:Bd z.natAbs l):ai w v z l:=⟨And.left h,hb⟩
theorem ai.zero (w:World) (k:Nat):ai w (.agg #[.bool false,.slice none 0 0]) 0 k:=⟨⟨none,0,by simp [an,iF],by simpa [an,iF] using Sl.nil w .u32⟩,by show (0:Int).natAbs<_;exact Nat.pow_pos (by omega)⟩
theorem aE.fQ  (h:aE w (.agg l.toArray) z k):∀u,u ∈ l->u.oneCell'=true∧cX u:=by
 obtain ⟨b,p,n,c,e,-⟩:=h.open
 simp only [Value.agg.injEq] at e
 have hl:l = [.bool b,.slice p n c]:=by have:=congrArg Array.toList e;simpa using this
 subst hl
 intro u hu
 simp only [List.mem_cons,List.not_mem_nil,or_false] at hu
 rcases hu with rfl | rfl <;> exact ⟨rfl,fun k m _ e=>by cases e⟩
theorem ai.fQ  (h:ai w (.agg l.toArray) z k):∀u,u ∈ l->u.oneCell'=true∧cX u:=aE.fQ h.i
theorem aT.fQ {b:Bool}{xs:List Nat} (h:aT w (.agg l.toArray) b xs):∀u,u ∈ l->u.oneCell'=true∧cX u:=by
 obtain ⟨s,e,⟨p,c,rfl,-⟩,-⟩:=h
 simp only [Value.agg.injEq] at e
 have hl:l = [.bool b,.slice p xs.length c]:=by have:=congrArg Array.toList e;simpa using this
 subst hl
 intro u hu
 simp only [List.mem_cons,List.not_mem_nil,or_false] at hu
 rcases hu with rfl | rfl <;> exact ⟨rfl,fun k m _ e=>by cases e⟩
theorem al.fQ  (h:al w (.agg l.toArray) q k):∀u,u ∈ l->u.oneCell'=true∧cX u:=by
 obtain ⟨p,n,c,b,p',n',c',b',e,-⟩:=h
 simp only [Value.agg.injEq] at e
 have hl:l = [.slice p n c,.bool b,.slice p' n' c',.bool b']:=by have:=congrArg Array.toList e;simpa using this
 subst hl
 intro u hu
 simp only [List.mem_cons,List.not_mem_nil,or_false] at hu
 rcases hu with rfl | rfl | rfl | rfl <;> exact ⟨rfl,fun k m _ e=>by cases e⟩
theorem aE.cells  (h:aE w v z k):∃l:List Value,v = .agg l.toArray∧l.length=2∧∀u,u ∈ l->u.oneCell'=true∧cX u:=by
 obtain ⟨b,p,n,c,rfl,h2⟩:=h.open
 exact ⟨[.bool b,.slice p n c],rfl,rfl,aE.fQ (l:=[.bool b,.slice p n c]) h2⟩
theorem ai.cells  (h:ai w v z k):∃l:List Value,v = .agg l.toArray∧l.length=2∧∀u,u ∈ l->u.oneCell'=true∧cX u:=aE.cells h.i
theorem al.cells  (h:al w v q k):∃l:List Value,v = .agg l.toArray∧l.length=4∧∀u,u ∈ l->u.oneCell'=true∧cX u:=by
 obtain ⟨p,n,c,b,p',n',c',b',rfl,h2⟩:=id h
 exact ⟨[.slice p n c,.bool b,.slice p' n' c',.bool b'],rfl,rfl,al.fQ (l:=[.slice p n c,.bool b,.slice p' n' c',.bool b']) h⟩
theorem infoI:(Tryz.prog.info? 57).map (fun i=>(i.zero,i.size,i.bytes))=some (some (.agg #[.bool false,.slice none 0 0]),2,32):=by kernel_rfl
theorem HQ:(Tryz.prog.info? 44).map (fun i=>(i.zero,i.size,i.bytes))=some (some (.agg #[.slice none 0 0,.bool false,.slice none 0 0,.bool false]),4,64):=by kernel_rfl
theorem pL:∀u,u ∈ (Value.agg #[.bool false,.slice none 0 0]).cells.toList->cX u:=fun x hx=>by
 have hx':x ∈ [Value.bool false,.slice none 0 0]:=hx
 simp only [List.mem_cons,List.not_mem_nil,or_false] at hx'
 rcases hx' with rfl | rfl <;> exact fun k m _ e=>by cases e
theorem HW:∀u,u ∈ (Value.agg #[.slice none 0 0,.bool false,.slice none 0 0,.bool false]).cells.toList->cX u:=fun x hx=>by
 have hx':x ∈ [Value.slice none 0 0,.bool false,.slice none 0 0,.bool false]:=hx
 simp only [List.mem_cons,List.not_mem_nil,or_false] at hx'
 rcases hx' with rfl | rfl | rfl | rfl <;> exact fun k m _ e=>by cases e
section
variable {Φ:PH}{p q x n:Nat}{F:PH}
theorem jc (hp:∀w v,Φ p w v->v = .int .i64 (n:Int)) (hF:∀k w,F k w (.agg #[.bool false,.slice none 0 0])) (hx:Φ x=ah 2 57 F n) (hn:n<=1000000:=by omega):aj Φ Tryz.prog ⟨0,[.fact p,.fact p],[oS x],.loose [] j 0 (fE 28)⟩:=by
 obtain ⟨i0,hi,hz0,hz1,hz2⟩:=info_parts infoI
 exact xd Tryz.underlying28 hi hz0 hz1 hz2 rfl pL hp hn hF hx
theorem Zv (hp:∀w v,Φ p w v->v = .int .i64 (n:Int)) (hF:∀k w,F k w (.agg #[.slice none 0 0,.bool false,.slice none 0 0,.bool false])) (hx:Φ x=ah 4 44 F n) (hn:n<=1000000:=by omega):aj Φ Tryz.prog ⟨0,[.fact p,.fact p],[oS x],.loose [] j 0 (fE 24)⟩:=by
 obtain ⟨i0,hi,hz0,hz1,hz2⟩:=info_parts HQ
 exact xd Tryz.underlying24 hi hz0 hz1 hz2 rfl HW hp hn hF hx
theorem vh (hF:∀i w w1 v,Kp w w1->F i w v->F i w1 v) (hp:∀w v,Φ p w v->ah 2 57 F n w v) (hq:∀w v,Φ q w v->F n w v) (hc:∀w (l:List Value),Φ q w (.agg l.toArray)->∀u,u ∈ l->u.oneCell'=true∧cX u) (hx:Φ x=ah 2 57 F (n+1)) (hn:n<=1000000:=by omega) :
  aj Φ Tryz.prog ⟨0,[.fact p,.row 2 [q]],[oS x],.loose [] j 0 (eF 28 28)⟩:=by
 obtain ⟨i0,hi,hz0,hz1,hz2⟩:=info_parts infoI
 exact Ia Tryz.underlying28 hi hz0 hz1 hz2 rfl pL hF hp hq hc hn hx
theorem pS (hF:∀i w w1 v,Kp w w1->F i w v->F i w1 v) (hp:∀w v,Φ p w v->ah 4 44 F n w v) (hq:∀w v,Φ q w v->F n w v) (hc:∀w (l:List Value),Φ q w (.agg l.toArray)->∀u,u ∈ l->u.oneCell'=true∧cX u) (hx:Φ x=ah 4 44 F (n+1)) (hn:n<=1000000:=by omega) :
  aj Φ Tryz.prog ⟨0,[.fact p,.row 4 [q]],[oS x],.loose [] j 0 (eF 24 24)⟩:=by
 obtain ⟨i0,hi,hz0,hz1,hz2⟩:=info_parts HQ
 exact Ia Tryz.underlying24 hi hz0 hz1 hz2 rfl HW hF hp hq hc hn hx
theorem cS {P:Program} (J:List Nat){f:FuncId}{args:List Arg}{outs:List Out}{be:Bool} (h:aj Φ P ⟨f,args,outs,.call be⟩):aj Φ P ⟨f,args,outs,.cC J be⟩:=h
theorem nZ  (hp:Φ p=Nw 0 0) (Y:Nat->Prop) (w:World) (v:Value) (h:(Arg.parts (.agg [.lit (.cb false),.lit .nl]) []).ok Φ Y w v):(Arg.fact p).ok Φ Y w v:=fun w1 hw=>by
 rw [hp]
 obtain ⟨⟨us,rfl,h2⟩,_⟩:=h
 match us,h2 with
 | [v0,v1],h2=>
  obtain ⟨e0,e1,_⟩:=h2
  have qB:v0 = .bool false:=e0
  have e1':v1 = .slice none 0 0:=e1
  subst qB;subst e1'
  exact ai.zero w1 0
end
end Go.Proofs.YtomamliepbhegaaGreat.Sym
