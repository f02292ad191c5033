/- Rows of whole numbers and of the reference's rationals in memory of the call's own: made, stored into, grown. -/
import Derived.Test.YtomamliepbhegaaPolB
import Derived.Test.YtomamliepbhegaaRefV
namespace Go.Proofs.Ytomamliepbhegaa.Sym
open Go.RowKit
def upto (j:Nat) (f:Nat->Int) (i:Nat):Int:=if i<j then f i else 0
theorem LE {j i:Nat}{f:Nat->Int} (h:i≠j):upto (j+1) f i=upto j f i:=by
 unfold upto
 split <;> split <;> first | rfl | omega
theorem LG (j:Nat) (f:Nat->Int):upto (j+1) f j=f j:=if_pos (Nat.lt_succ_self j)
theorem el {j i:Nat}{f:Nat->Int} (h:i<j):upto j f i=f i:=if_pos h
theorem au.re {w:World}{v:Value}{z:Int}{k l:Nat} (h:au w v z k) (hb:Bd z.natAbs l):au w v z l:=⟨And.left h,hb⟩
theorem au.zero (w:World) (k:Nat):au w (.agg #[.bool false,.slice none 0 0]) 0 k:=by
 exact ⟨⟨none,0,by simp [ak,eG],by simpa [ak,eG] using Sl.nil w .u32⟩,by show (0:Int).natAbs<_;exact Nat.pow_pos (by omega)⟩
theorem aB.dX {z:Int}{k:Nat}{w:World}{l:List Value} (h:aB w (.agg l.toArray) z k):∀u,u ∈ l->u.oneCell'=true∧KT u:=by
 obtain ⟨b,p,n,c,e,-⟩:=h.open
 simp only [Value.agg.injEq] at e
 have hl:l = [.bool b,.slice p n c]:=by have:=congrArg Array.toList e;simpa using this
 subst hl
 intro u hu
 simp only [List.mem_cons,List.not_mem_nil,or_false] at hu
 rcases hu with rfl | rfl <;> exact ⟨rfl,fun k m _ e=>by cases e⟩
theorem au.dX {z:Int}{k:Nat}{w:World}{l:List Value} (h:au w (.agg l.toArray) z k):∀u,u ∈ l->u.oneCell'=true∧KT u:=aB.dX h.i
theorem KR.dX {b:Bool}{xs:List Nat}{w:World}{l:List Value} (h:KR w (.agg l.toArray) b xs):∀u,u ∈ l->u.oneCell'=true∧KT u:=by
 obtain ⟨s,e,⟨p,c,rfl,-⟩,-⟩:=h
 simp only [Value.agg.injEq] at e
 have hl:l = [.bool b,.slice p xs.length c]:=by have:=congrArg Array.toList e;simpa using this
 subst hl
 intro u hu
 simp only [List.mem_cons,List.not_mem_nil,or_false] at hu
 rcases hu with rfl | rfl <;> exact ⟨rfl,fun k m _ e=>by cases e⟩
theorem am.dX {q:Rat}{k:Nat}{w:World}{l:List Value} (h:am w (.agg l.toArray) q k):∀u,u ∈ l->u.oneCell'=true∧KT u:=by
 obtain ⟨p,n,c,b,p',n',c',b',e,-⟩:=h
 simp only [Value.agg.injEq] at e
 have hl:l = [.slice p n c,.bool b,.slice p' n' c',.bool b']:=by have:=congrArg Array.toList e;simpa using this
 subst hl
 intro u hu
 simp only [List.mem_cons,List.not_mem_nil,or_false] at hu
 rcases hu with rfl | rfl | rfl | rfl <;> exact ⟨rfl,fun k m _ e=>by cases e⟩
theorem aB.cells {z:Int}{k:Nat}{w:World}{v:Value} (h:aB w v z k):∃l:List Value,v = .agg l.toArray∧l.length=2∧∀u,u ∈ l->u.oneCell'=true∧KT u:=by
 obtain ⟨b,p,n,c,rfl,h2⟩:=h.open
 exact ⟨[.bool b,.slice p n c],rfl,rfl,aB.dX (l:=[.bool b,.slice p n c]) h2⟩
theorem au.cells {z:Int}{k:Nat}{w:World}{v:Value} (h:au w v z k):∃l:List Value,v = .agg l.toArray∧l.length=2∧∀u,u ∈ l->u.oneCell'=true∧KT u:=aB.cells h.i
theorem am.cells {q:Rat}{k:Nat}{w:World}{v:Value} (h:am w v q k):∃l:List Value,v = .agg l.toArray∧l.length=4∧∀u,u ∈ l->u.oneCell'=true∧KT u:=by
 obtain ⟨p,n,c,b,p',n',c',b',rfl,h2⟩:=id h
 exact ⟨[.slice p n c,.bool b,.slice p' n' c',.bool b'],rfl,rfl,am.dX (l:=[.slice p n c,.bool b,.slice p' n' c',.bool b']) h⟩
theorem infoI:(Try.prog.info? 66).map (fun i=>(i.zero,i.size,i.bytes))=some (some (.agg #[.bool false,.slice none 0 0]),2,32):=by kernel_rfl
theorem tn:(Try.prog.info? 63).map (fun i=>(i.zero,i.size,i.bytes))=some (some (.agg #[.slice none 0 0,.bool false,.slice none 0 0,.bool false]),4,64):=by kernel_rfl
theorem tq:∀u,u ∈ (Value.agg #[.bool false,.slice none 0 0]).cells.toList->KT u:=fun x hx=>by
 have hx':x ∈ [Value.bool false,.slice none 0 0]:=hx
 simp only [List.mem_cons,List.not_mem_nil,or_false] at hx'
 rcases hx' with rfl | rfl <;> exact fun k m _ e=>by cases e
theorem tr:∀u,u ∈ (Value.agg #[.slice none 0 0,.bool false,.slice none 0 0,.bool false]).cells.toList->KT u:=fun x hx=>by
 have hx':x ∈ [Value.slice none 0 0,.bool false,.slice none 0 0,.bool false]:=hx
 simp only [List.mem_cons,List.not_mem_nil,or_false] at hx'
 rcases hx' with rfl | rfl | rfl | rfl <;> exact fun k m _ e=>by cases e
section
variable {Φ:PH}{p q x j n:Nat}{F:PH}
theorem iP (hp:∀w v,Φ p w v->v = .int .i64 (n:Int)) (hn:n<=1000000) (hF:∀k w,F k w (.agg #[.bool false,.slice none 0 0])) (hx:Φ x=aC 2 66 F n):aj Φ Try.prog ⟨0,[.fact p,.fact p],[oS x],.loose [] j 0 (dZ 29)⟩:=by
 obtain ⟨i0,hi,hz0,hz1,hz2⟩:=info_parts infoI
 exact ol Try.underlying29 hi hz0 hz1 hz2 rfl (by omega) (by omega) tq hp hn hF hx
theorem tt (hF:∀i w w1 v,Kp w w1->F i w v->F i w1 v) (hp:∀w v,Φ p w v->aC 2 66 F n w v) (hq:∀w v,Φ q w v->F n w v) (hc:∀w (l:List Value),Φ q w (.agg l.toArray)->∀u,u ∈ l->u.oneCell'=true∧KT u) (hn:n<=1000000) (hx:Φ x=aC 2 66 F (n+1)) :
  aj Φ Try.prog ⟨0,[.fact p,.row 2 [q]],[oS x],.loose [] j 0 (cf 29 29)⟩:=by
 obtain ⟨i0,hi,hz0,hz1,hz2⟩:=info_parts infoI
 exact tu Try.underlying29 hi hz0 hz1 hz2 rfl (by omega) (by omega) tq hF hp hq hc hn hx
theorem kZ (hF:∀i w w1 v,Kp w w1->F i w v->F i w1 v) (hp:∀w v,Φ p w v->aC 4 63 F n w v) (hq:∀w v,Φ q w v->F n w v) (hc:∀w (l:List Value),Φ q w (.agg l.toArray)->∀u,u ∈ l->u.oneCell'=true∧KT u) (hn:n<=1000000) (hx:Φ x=aC 4 63 F (n+1)) :
  aj Φ Try.prog ⟨0,[.fact p,.row 4 [q]],[oS x],.loose [] j 0 (cf 36 36)⟩:=by
 obtain ⟨i0,hi,hz0,hz1,hz2⟩:=info_parts tn
 exact tu Try.underlying36 hi hz0 hz1 hz2 rfl (by omega) (by omega) tr hF hp hq hc hn hx
theorem eA {P:Program}{Φ:PH} (J:List Nat){f:FuncId}{args:List Arg}{outs:List Out}{aM:Bool} (h:aj Φ P ⟨f,args,outs,.call aM⟩):aj Φ P ⟨f,args,outs,.df J aM⟩:=h
theorem om {p:Nat} (hp:Φ p=Nw 0 0) (Y:Nat->Prop) (w:World) (v:Value) (h:(Arg.parts (.agg [.lit (.cb false),.lit .nl]) []).ok Φ Y w v):(Arg.fact p).ok Φ Y w v:=fun w1 hw=>by
 rw [hp]
 obtain ⟨⟨us,rfl,h2⟩,_⟩:=h
 match us,h2 with
 | [v0,v1],h2=>
  obtain ⟨e0,e1,_⟩:=h2
  have oo:v0 = .bool false:=e0
  have e1':v1 = .slice none 0 0:=e1
  subst oo;subst e1'
  exact au.zero w1 0
end
end Go.Proofs.Ytomamliepbhegaa.Sym
