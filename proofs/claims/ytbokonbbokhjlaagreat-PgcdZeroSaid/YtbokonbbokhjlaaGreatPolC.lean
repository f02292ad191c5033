/- Rows of whole numbers and of the reference's rationals in memory of the call's own: made, stored into, grown. -/
import Derived.Test.YtbokonbbokhjlaaGreatPolB
import Derived.Test.YtbokonbbokhjlaaGreatRefV
namespace Go.Proofs.YtbokonbbokhjlaaGreat.Sym
open Go.RowKit
def upto (j:Nat) (f:Nat->Int) (i:Nat):Int:=if i<j then f i else 0
theorem ms {j i:Nat}{f:Nat->Int} (h:i≠j):upto (j+1) f i=upto j f i:=by
 unfold upto
 split <;> split <;> first | rfl | omega
theorem mt (j:Nat) (f:Nat->Int):upto (j+1) f j=f j:=if_pos (Nat.lt_succ_self j)
theorem fD {j i:Nat}{f:Nat->Int} (h:i<j):upto j f i=f i:=if_pos h
theorem af.re {w:World}{v:Value}{z:Int}{k l:Nat} (h:af w v z k) (hb:Bd z.natAbs l):af w v z l:=⟨And.left h,hb⟩
theorem af.zero (w:World) (k:Nat):af w (.agg #[.bool false,.slice none 0 0]) 0 k:=by
 exact ⟨⟨none,0,by simp [aj,jn],by simpa [aj,jn] using Sl.nil w .u32⟩,by show (0:Int).natAbs<_;exact Nat.pow_pos (by omega)⟩
theorem aC.iH {z:Int}{k:Nat}{w:World}{l:List Value} (h:aC w (.agg l.toArray) z k):∀u,u ∈ l->u.oneCell'=true∧cM u:=by
 obtain ⟨b,p,n,c,e,-⟩:=h.open
 simp only [Value.agg.injEq] at e
 have hl:l = [.bool b,.slice p n c]:=by have:=congrArg Array.toList e;simpa using this
 subst hl
 intro u hu
 simp only [List.mem_cons,List.not_mem_nil,or_false] at hu
 rcases hu with rfl | rfl <;> exact ⟨rfl,fun k m _ e=>by cases e⟩
theorem af.iH {z:Int}{k:Nat}{w:World}{l:List Value} (h:af w (.agg l.toArray) z k):∀u,u ∈ l->u.oneCell'=true∧cM u:=aC.iH h.i
theorem cH.iH {b:Bool}{xs:List Nat}{w:World}{l:List Value} (h:cH w (.agg l.toArray) b xs):∀u,u ∈ l->u.oneCell'=true∧cM u:=by
 obtain ⟨s,e,⟨p,c,rfl,-⟩,-⟩:=h
 simp only [Value.agg.injEq] at e
 have hl:l = [.bool b,.slice p xs.length c]:=by have:=congrArg Array.toList e;simpa using this
 subst hl
 intro u hu
 simp only [List.mem_cons,List.not_mem_nil,or_false] at hu
 rcases hu with rfl | rfl <;> exact ⟨rfl,fun k m _ e=>by cases e⟩
theorem aQ.iH {q:Rat}{k:Nat}{w:World}{l:List Value} (h:aQ w (.agg l.toArray) q k):∀u,u ∈ l->u.oneCell'=true∧cM u:=by
 obtain ⟨p,n,c,b,p',n',c',b',e,-⟩:=h
 simp only [Value.agg.injEq] at e
 have hl:l = [.slice p n c,.bool b,.slice p' n' c',.bool b']:=by have:=congrArg Array.toList e;simpa using this
 subst hl
 intro u hu
 simp only [List.mem_cons,List.not_mem_nil,or_false] at hu
 rcases hu with rfl | rfl | rfl | rfl <;> exact ⟨rfl,fun k m _ e=>by cases e⟩
theorem aC.cells {z:Int}{k:Nat}{w:World}{v:Value} (h:aC w v z k):∃l:List Value,v = .agg l.toArray∧l.length=2∧∀u,u ∈ l->u.oneCell'=true∧cM u:=by
 obtain ⟨b,p,n,c,rfl,h2⟩:=h.open
 exact ⟨[.bool b,.slice p n c],rfl,rfl,aC.iH (l:=[.bool b,.slice p n c]) h2⟩
theorem af.cells {z:Int}{k:Nat}{w:World}{v:Value} (h:af w v z k):∃l:List Value,v = .agg l.toArray∧l.length=2∧∀u,u ∈ l->u.oneCell'=true∧cM u:=aC.cells h.i
theorem aQ.cells {q:Rat}{k:Nat}{w:World}{v:Value} (h:aQ w v q k):∃l:List Value,v = .agg l.toArray∧l.length=4∧∀u,u ∈ l->u.oneCell'=true∧cM u:=by
 obtain ⟨p,n,c,b,p',n',c',b',rfl,h2⟩:=id h
 exact ⟨[.slice p n c,.bool b,.slice p' n' c',.bool b'],rfl,rfl,aQ.iH (l:=[.slice p n c,.bool b,.slice p' n' c',.bool b']) h⟩
theorem infoI:(Tryz.prog.info? 52).map (fun i=>(i.zero,i.size,i.bytes))=some (some (.agg #[.bool false,.slice none 0 0]),2,32):=by kernel_rfl
theorem Sb:(Tryz.prog.info? 58).map (fun i=>(i.zero,i.size,i.bytes))=some (some (.agg #[.slice none 0 0,.bool false,.slice none 0 0,.bool false]),4,64):=by kernel_rfl
theorem pF:∀u,u ∈ (Value.agg #[.bool false,.slice none 0 0]).cells.toList->cM u:=fun x hx=>by
 have hx':x ∈ [Value.bool false,.slice none 0 0]:=hx
 simp only [List.mem_cons,List.not_mem_nil,or_false] at hx'
 rcases hx' with rfl | rfl <;> exact fun k m _ e=>by cases e
theorem Sc:∀u,u ∈ (Value.agg #[.slice none 0 0,.bool false,.slice none 0 0,.bool false]).cells.toList->cM u:=fun x hx=>by
 have hx':x ∈ [Value.slice none 0 0,.bool false,.slice none 0 0,.bool false]:=hx
 simp only [List.mem_cons,List.not_mem_nil,or_false] at hx'
 rcases hx' with rfl | rfl | rfl | rfl <;> exact fun k m _ e=>by cases e
section
variable {Φ:PH}{p q x j n:Nat}{F:PH}
theorem gZ (hp:∀w v,Φ p w v->v = .int .i64 (n:Int)) (hn:n<=1000000) (hF:∀k w,F k w (.agg #[.bool false,.slice none 0 0])) (hx:Φ x=ah 2 52 F n):ai Φ Tryz.prog ⟨0,[.fact p,.fact p],[oS x],.loose [] j 0 (fp 28)⟩:=by
 obtain ⟨i0,hi,hz0,hz1,hz2⟩:=info_parts infoI
 exact AS Tryz.underlying28 hi hz0 hz1 hz2 rfl (by omega) (by omega) pF hp hn hF hx
theorem Sd (hF:∀i w w1 v,Kp w w1->F i w v->F i w1 v) (hp:∀w v,Φ p w v->ah 4 58 F n w v) (hq:∀w v,Φ q w v->F n w v) (hc:∀w (l:List Value),Φ q w (.agg l.toArray)->∀u,u ∈ l->u.oneCell'=true∧cM u) (hn:n<=1000000) (hx:Φ x=ah 4 58 F (n+1)) :
  ai Φ Tryz.prog ⟨0,[.fact p,.row 4 [q]],[oS x],.loose [] j 0 (fN 24 24)⟩:=by
 obtain ⟨i0,hi,hz0,hz1,hz2⟩:=info_parts Sb
 exact Se Tryz.underlying24 hi hz0 hz1 hz2 rfl (by omega) (by omega) Sc hF hp hq hc hn hx
theorem de {P:Program}{Φ:PH} (J:List Nat){f:FuncId}{args:List Arg}{outs:List Out}{aT:Bool} (h:ai Φ P ⟨f,args,outs,.call aT⟩):ai Φ P ⟨f,args,outs,.cE J aT⟩:=h
theorem mq {p:Nat} (hp:Φ p=Nw 0 0) (Y:Nat->Prop) (w:World) (v:Value) (h:(Arg.parts (.agg [.lit (.cb false),.lit .nl]) []).ok Φ Y w v):(Arg.fact p).ok Φ Y w v:=fun w1 hw=>by
 rw [hp]
 obtain ⟨⟨us,rfl,h2⟩,_⟩:=h
 match us,h2 with
 | [v0,v1],h2=>
  obtain ⟨e0,e1,_⟩:=h2
  have n8:v0 = .bool false:=e0
  have e1':v1 = .slice none 0 0:=e1
  subst n8;subst e1'
  exact af.zero w1 0
end
end Go.Proofs.YtbokonbbokhjlaaGreat.Sym
