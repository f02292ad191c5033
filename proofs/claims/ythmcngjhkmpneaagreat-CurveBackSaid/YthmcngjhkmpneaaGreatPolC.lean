/- Rows of whole numbers and of the reference's rationals in memory of the call's own: made, stored into, grown. -/
import Derived.Test.YthmcngjhkmpneaaGreatPolB
import Derived.Test.YthmcngjhkmpneaaGreatRefV
namespace Go.Proofs.YthmcngjhkmpneaaGreat.Sym
open Go.RowKit
def upto (j:Nat) (f:Nat->Int) (i:Nat):Int:=if i<j then f i else 0
theorem kH {j i:Nat}{f:Nat->Int} (h:i≠j):upto (j+1) f i=upto j f i:=by
 unfold upto
 split <;> split <;> first | rfl | omega
theorem kJ (j:Nat) (f:Nat->Int):upto (j+1) f j=f j:=if_pos (Nat.lt_succ_self j)
theorem fH {j i:Nat}{f:Nat->Int} (h:i<j):upto j f i=f i:=if_pos h
theorem ak.re {w:World}{v:Value}{z:Int}{k l:Nat} (h:ak w v z k) (hb:Bd z.natAbs l):ak w v z l:=⟨And.left h,hb⟩
theorem ak.zero (w:World) (k:Nat):ak w (.agg #[.bool false,.slice none 0 0]) 0 k:=by
 exact ⟨⟨none,0,by simp [af,eR],by simpa [af,eR] using Sl.nil w .u32⟩,by show (0:Int).natAbs<_;exact Nat.pow_pos (by omega)⟩
theorem aj.dm {z:Int}{k:Nat}{w:World}{l:List Value} (h:aj w (.agg l.toArray) z k):∀u,u ∈ l->u.oneCell'=true∧bV u:=by
 obtain ⟨b,p,n,c,e,-⟩:=h.open
 simp only [Value.agg.injEq] at e
 have hl:l = [.bool b,.slice p n c]:=by have:=congrArg Array.toList e;simpa using this
 subst hl
 intro u hu
 simp only [List.mem_cons,List.not_mem_nil,or_false] at hu
 rcases hu with rfl | rfl <;> exact ⟨rfl,fun k m _ e=>by cases e⟩
theorem ak.dm {z:Int}{k:Nat}{w:World}{l:List Value} (h:ak w (.agg l.toArray) z k):∀u,u ∈ l->u.oneCell'=true∧bV u:=aj.dm h.i
theorem aG.dm {b:Bool}{xs:List Nat}{w:World}{l:List Value} (h:aG w (.agg l.toArray) b xs):∀u,u ∈ l->u.oneCell'=true∧bV u:=by
 obtain ⟨s,e,⟨p,c,rfl,-⟩,-⟩:=h
 simp only [Value.agg.injEq] at e
 have hl:l = [.bool b,.slice p xs.length c]:=by have:=congrArg Array.toList e;simpa using this
 subst hl
 intro u hu
 simp only [List.mem_cons,List.not_mem_nil,or_false] at hu
 rcases hu with rfl | rfl <;> exact ⟨rfl,fun k m _ e=>by cases e⟩
theorem ah.dm {q:Rat}{k:Nat}{w:World}{l:List Value} (h:ah w (.agg l.toArray) q k):∀u,u ∈ l->u.oneCell'=true∧bV u:=by
 obtain ⟨p,n,c,b,p',n',c',b',e,-⟩:=h
 simp only [Value.agg.injEq] at e
 have hl:l = [.slice p n c,.bool b,.slice p' n' c',.bool b']:=by have:=congrArg Array.toList e;simpa using this
 subst hl
 intro u hu
 simp only [List.mem_cons,List.not_mem_nil,or_false] at hu
 rcases hu with rfl | rfl | rfl | rfl <;> exact ⟨rfl,fun k m _ e=>by cases e⟩
theorem aj.cells {z:Int}{k:Nat}{w:World}{v:Value} (h:aj w v z k):∃l:List Value,v = .agg l.toArray∧l.length=2∧∀u,u ∈ l->u.oneCell'=true∧bV u:=by
 obtain ⟨b,p,n,c,rfl,h2⟩:=h.open
 exact ⟨[.bool b,.slice p n c],rfl,rfl,aj.dm (l:=[.bool b,.slice p n c]) h2⟩
theorem ak.cells {z:Int}{k:Nat}{w:World}{v:Value} (h:ak w v z k):∃l:List Value,v = .agg l.toArray∧l.length=2∧∀u,u ∈ l->u.oneCell'=true∧bV u:=aj.cells h.i
theorem ah.cells {q:Rat}{k:Nat}{w:World}{v:Value} (h:ah w v q k):∃l:List Value,v = .agg l.toArray∧l.length=4∧∀u,u ∈ l->u.oneCell'=true∧bV u:=by
 obtain ⟨p,n,c,b,p',n',c',b',rfl,h2⟩:=id h
 exact ⟨[.slice p n c,.bool b,.slice p' n' c',.bool b'],rfl,rfl,ah.dm (l:=[.slice p n c,.bool b,.slice p' n' c',.bool b']) h⟩
theorem infoI:(Tryz.prog.info? 51).map (fun i=>(i.zero,i.size,i.bytes))=some (some (.agg #[.bool false,.slice none 0 0]),2,32):=by kernel_rfl
theorem mu:(Tryz.prog.info? 44).map (fun i=>(i.zero,i.size,i.bytes))=some (some (.agg #[.slice none 0 0,.bool false,.slice none 0 0,.bool false]),4,64):=by kernel_rfl
theorem jU:∀u,u ∈ (Value.agg #[.bool false,.slice none 0 0]).cells.toList->bV u:=fun x hx=>by
 have hx':x ∈ [Value.bool false,.slice none 0 0]:=hx
 simp only [List.mem_cons,List.not_mem_nil,or_false] at hx'
 rcases hx' with rfl | rfl <;> exact fun k m _ e=>by cases e
theorem mv:∀u,u ∈ (Value.agg #[.slice none 0 0,.bool false,.slice none 0 0,.bool false]).cells.toList->bV u:=fun x hx=>by
 have hx':x ∈ [Value.slice none 0 0,.bool false,.slice none 0 0,.bool false]:=hx
 simp only [List.mem_cons,List.not_mem_nil,or_false] at hx'
 rcases hx' with rfl | rfl | rfl | rfl <;> exact fun k m _ e=>by cases e
section
variable {Φ:PH}{p q x j n:Nat}{F:PH}
theorem rh (hp:∀w v,Φ p w v->v = .int .i64 (n:Int)) (hn:n<=1000000) (hF:∀k w,F k w (.agg #[.bool false,.slice none 0 0])) (hx:Φ x=am 2 51 F n):ai Φ Tryz.prog ⟨0,[.fact p,.fact p],[oS x],.loose [] j 0 (ff 28)⟩:=by
 obtain ⟨i0,hi,hz0,hz1,hz2⟩:=info_parts infoI
 exact wS Tryz.underlying28 hi hz0 hz1 hz2 rfl (by omega) (by omega) jU hp hn hF hx
theorem Id (hp:∀w v,Φ p w v->v = .int .i64 (n:Int)) (hn:n<=1000000) (hF:∀k w,F k w (.agg #[.slice none 0 0,.bool false,.slice none 0 0,.bool false])) (hx:Φ x=am 4 44 F n):ai Φ Tryz.prog ⟨0,[.fact p,.fact p],[oS x],.loose [] j 0 (ff 24)⟩:=by
 obtain ⟨i0,hi,hz0,hz1,hz2⟩:=info_parts mu
 exact wS Tryz.underlying24 hi hz0 hz1 hz2 rfl (by omega) (by omega) mv hp hn hF hx
theorem mh (hF:∀i w w1 v,Kp w w1->F i w v->F i w1 v) (hp:∀w v,Φ p w v->am 2 51 F n w v) (hq:∀w v,Φ q w v->F n w v) (hc:∀w (l:List Value),Φ q w (.agg l.toArray)->∀u,u ∈ l->u.oneCell'=true∧bV u) (hn:n<=1000000) (hx:Φ x=am 2 51 F (n+1)) :
  ai Φ Tryz.prog ⟨0,[.fact p,.row 2 [q]],[oS x],.loose [] j 0 (cU 28 28)⟩:=by
 obtain ⟨i0,hi,hz0,hz1,hz2⟩:=info_parts infoI
 exact wT Tryz.underlying28 hi hz0 hz1 hz2 rfl (by omega) (by omega) jU hF hp hq hc hn hx
theorem mB (hF:∀i w w1 v,Kp w w1->F i w v->F i w1 v) (hp:∀w v,Φ p w v->am 4 44 F n w v) (hq:∀w v,Φ q w v->F n w v) (hc:∀w (l:List Value),Φ q w (.agg l.toArray)->∀u,u ∈ l->u.oneCell'=true∧bV u) (hn:n<=1000000) (hx:Φ x=am 4 44 F (n+1)) :
  ai Φ Tryz.prog ⟨0,[.fact p,.row 4 [q]],[oS x],.loose [] j 0 (cU 24 24)⟩:=by
 obtain ⟨i0,hi,hz0,hz1,hz2⟩:=info_parts mu
 exact wT Tryz.underlying24 hi hz0 hz1 hz2 rfl (by omega) (by omega) mv hF hp hq hc hn hx
theorem dZ {P:Program}{Φ:PH} (J:List Nat){f:FuncId}{args:List Arg}{outs:List Out}{aJ:Bool} (h:ai Φ P ⟨f,args,outs,.call aJ⟩):ai Φ P ⟨f,args,outs,.c9 J aJ⟩:=h
theorem iq {p:Nat} (hp:Φ p=Nw 0 0) (Y:Nat->Prop) (w:World) (v:Value) (h:(Arg.parts (.agg [.lit (.cb false),.lit .nl]) []).ok Φ Y w v):(Arg.fact p).ok Φ Y w v:=fun w1 hw=>by
 rw [hp]
 obtain ⟨⟨us,rfl,h2⟩,_⟩:=h
 match us,h2 with
 | [v0,v1],h2=>
  obtain ⟨e0,e1,_⟩:=h2
  have Ie:v0 = .bool false:=e0
  have e1':v1 = .slice none 0 0:=e1
  subst Ie;subst e1'
  exact ak.zero w1 0
end
end Go.Proofs.YthmcngjhkmpneaaGreat.Sym
