/- poly.At; the reference's At, Whole, Sign, Ends. -/
import Derived.Test.YthmcngjhkmpneaaGreatPolZ
import Derived.Test.YthmcngjhkmpneaaGreatPolQ
namespace Go.Proofs.YthmcngjhkmpneaaGreat.Sym
open Go.RowKit
theorem ae.re {w:World}{v:Value}{z:Int}{k l:Nat} (h:ae w v z k) (hb:Bd z.natAbs l):ae w v z l:=by
 obtain ⟨p,c,h1,h2⟩:=h
 exact ⟨p,c,h1,h2.1,hb⟩
theorem ah.re {w:World}{v:Value}{q:Rat}{k l:Nat} (h:ah w v q k) (h1:Bd q.num.natAbs l) (h2:Bd q.den l):ah w v q l:=by
 obtain ⟨p,n,c,b,p',n',c',b',h3,h4,h5⟩:=h
 exact ⟨p,n,c,b,p',n',c',b',h3,ae.re h4 h1,ae.re h5 (by rw [Int.natAbs_natCast];exact h2)⟩
theorem ae.zero (w:World) (k:Nat):ae w (.agg #[.slice none 0 0,.bool false]) 0 k:=by
 refine ⟨none,0,by simp [af,eR],?_,by show (0:Int).natAbs<_;exact Nat.pow_pos (by omega)⟩
 simpa [af,eR] using Sl.nil w .i64
theorem ae.n1 {z:Int}{k:Nat}{w:World}{l:List Value} (h:ae w (.agg l.toArray) (((z:Int):Rat).den:Int) k):∃s,Value.agg ((l.drop 0).take 1).toArray = .agg #[s]∧Arr 1 (fun _ _ v=>v = .agg #[.int .i64 1]) 1 w s:=by
 have h':ae w (.agg l.toArray) 1 k:=h
 obtain ⟨p,c,e,-⟩:=id h'
 have e1:(af 10000 (1:Int).natAbs).length=1:=by decide
 rw [e1] at e
 simp only [Value.agg.injEq] at e
 have hl:l = [.slice p 1 c,.bool (decide ((1:Int)<0))]:=by have:=congrArg Array.toList e;simpa using this
 subst hl
 obtain ⟨blk,off,rfl,hc⟩:=ae.one h'
 refine ⟨.slice (some ⟨blk,off,none⟩) 1 c,rfl,_,_,rfl,fun i hi=>⟨blk,off,rfl,[.int .i64 1],rfl,fun j u hj=>?_,rfl⟩⟩
 cases j with
 | succ j=>simp at hj
 | zero=>
  simp only [List.getElem?_cons_zero,Option.some.injEq] at hj
  subst hj
  obtain rfl:i=0:=by omega
  have hc':w.cell? ⟨blk,off,none⟩=some (.int .i64 1):=hc
  simpa using hc'
section
variable {P:Program}{Φ:PH}{p q x:Nat}
end
section
variable {Φ:PH}{p q x x1 x2 n k kr kk i:Nat}{z:Nat->Int}{r:Rat}
end
section
variable {Φ:PH}{p q x n k kr kk:Nat}{z:Nat->Int}{r:Rat}
end
section
variable {Φ:PH}{p q x x1 x2 y n k kr kk kt kn:Nat}{z:Nat->Int}{r:Rat}
theorem E8 (k:Nat){ki a u:Int}{b b':Bool}{xs ys:List Nat} (hki:(k:Int)=ki) (hp:∀w v,Φ p w v->bE w v b xs b' ys) (hx:Φ x=fun w v=>QV w v a u k) (hz:sg b (Proofs.YthmcngjhkmpneaaGreat.val 4294967296 (xs.take k))=a) (hu:sg b' (Proofs.YthmcngjhkmpneaaGreat.val 4294967296 (ys.take k))=u):ai Φ Tryz.prog ⟨26,[.fact p,.lit (.ci .i64 ki)],[⟨qS,[(0,0,x)]⟩],false⟩:=fun X w vs hX ha=>by
 subst hki
 match vs,ha with
 | [v,c],ha=>
  refine ((IQ (Φ:=ph [fun w v=>bE w v b xs b' ys,Ni (k:Int),fun w v=>bE w v b (xs.take k) b' (ys.take k),fun w v=>QV w v a u k]) (p:=0) (q:=1) (x:=2) (x':=3) k ad ad rfl rfl hz hu) X w [v,c] hX ⟨fun w1 hw=>hp _ _ (ha.1 w1 hw),fun w1 _=>ha.2.1,trivial⟩).mono fun e w' ⟨hg,us,he,ho⟩=>⟨hg,us,he,?_⟩
  match us,ho with
  | [t],ho=>exact cH ho.1.1 hx fun w1 hw=>ho.1.2 (0,0,3) (List.mem_cons_of_mem _ (List.mem_cons_self ..)) w1 hw
end
end Go.Proofs.YthmcngjhkmpneaaGreat.Sym
