/- poly.At; the reference's At, Whole, Sign, Ends. -/
import Derived.Test.YthmcngjhkmpneaaGreatPolZ
import Derived.Test.YthmcngjhkmpneaaGreatPolQ
namespace Go.Proofs.YthmcngjhkmpneaaGreat.Sym
open Go.RowKit
theorem Rx (q:Rat) (j:Nat):((q.den:Nat):Int) ^ j≠0:=Int.pow_ne_zero (by have:=q.den_nz;omega)
theorem ae.re {w:World}{v:Value}{z:Int}{k l:Nat} (h:ae w v z k) (hb:Bd z.natAbs l):ae w v z l:=by
 obtain ⟨p,c,h1,h2⟩:=h
 exact ⟨p,c,h1,h2.1,hb⟩
theorem ah.re {w:World}{v:Value}{q:Rat}{k l:Nat} (h:ah w v q k) (h1:Bd q.num.natAbs l) (h2:Bd q.den l):ah w v q l:=by
 obtain ⟨p,n,c,b,p',n',c',b',h3,h4,h5⟩:=h
 exact ⟨p,n,c,b,p',n',c',b',h3,ae.re h4 h1,ae.re h5 (by rw [Int.natAbs_natCast];exact h2)⟩
theorem ae.zero (w:World) (k:Nat):ae w (.agg #[.slice none 0 0,.bool false]) 0 k:=by
 refine ⟨none,0,by simp [af,eR],?_,by show (0:Int).natAbs<_;exact Nat.pow_pos (by omega)⟩
 simpa [af,eR] using Sl.nil w .i64
theorem ae.n1 {z:Int}{k:Nat}{w:World}{l:List Value} (h:ae w (.agg l.toArray) (((z:Int):Rat).den:Int) k):∃s,Value.agg ((l.drop 0).take 1).toArray = .agg #[s]∧Arr 1 (fun _ _ v=>v = .agg #[.int .i64 1]) 1 w s:=by
 have h':ae w (.agg l.toArray) 1 k:=h
 obtain ⟨p,c,e,-⟩:=id h'
 have e1:(af 10000 (1:Int).natAbs).length=1:=by decide
 rw [e1] at e
 simp only [Value.agg.injEq] at e
 have hl:l = [.slice p 1 c,.bool (decide ((1:Int)<0))]:=by have:=congrArg Array.toList e;simpa using this
 subst hl
 obtain ⟨blk,off,rfl,hc⟩:=ae.one h'
 refine ⟨.slice (some ⟨blk,off,none⟩) 1 c,rfl,_,_,rfl,fun i hi=>⟨blk,off,rfl,[.int .i64 1],rfl,fun j u hj=>?_,rfl⟩⟩
 cases j with
 | succ j=>simp at hj
 | zero=>
  simp only [List.getElem?_cons_zero,Option.some.injEq] at hj
  subst hj
  obtain rfl:i=0:=by omega
  have hc':w.cell? ⟨blk,off,none⟩=some (.int .i64 1):=hc
  simpa using hc'
section
variable {P:Program}{Φ:PH}{p q x:Nat}
end
def Ry (z:Nat->Int) (n k:Nat) (q:Rat) (kt kn:Nat):List WP:=[Rw 2 (If z k) n,fun w v=>bS w v q kt,Nw (hN z (tl z n) q.num q.den ((tl z n)-1)) kn,Nw (((q.den:Nat):Int) ^ ((tl z n)-1)) kn,fun w v=>bk w v (Rat.divInt (hN z (tl z n) q.num q.den ((tl z n)-1)) (((q.den:Nat):Int) ^ ((tl z n)-1))) (kn+kn),Nw ((Rat.divInt (hN z (tl z n) q.num q.den ((tl z n)-1)) (((q.den:Nat):Int) ^ ((tl z n)-1))).num) (kn+kn),Nw ((Rat.divInt (hN z (tl z n) q.num q.den ((tl z n)-1)) (((q.den:Nat):Int) ^ ((tl z n)-1))).den:Int) (kn+kn)]
def Rz:List Step:=[.base ⟨134,[.fact 0,.fact 1],[oI 2,oI 3],true⟩,
   .base ⟨133,[.fact 2,.fact 3],[⟨.agg [.b,.s,.b,.s],[(0,0,4),(0,2,5),(2,2,6)]⟩,oL (.ci .i64 0)],true⟩]
def RA:List Out:=[oS 0,oR 1]
set_option maxRecDepth 100000 in
theorem pat {z:Nat->Int}{n k:Nat}{q:Rat}{kt kn:Nat} (hn:n<=1000000) (hk:k<=40000) (hkt:kt<=30000) (hkn:kn<=50000) (hB:∀j,j<=(tl z n)-1->Bd (hN z (tl z n) q.num q.den j).natAbs kn∧Bd (((q.den:Nat):Int) ^ j).natAbs kn):ai (ph (Ry z n k q kt kn)) Tryz.prog ⟨88,[.fact 0,.fact 1],[⟨.agg [.b,.s,.b,.s],[(0,0,4),(0,2,5),(2,2,6)]⟩],false⟩:=by
 skip
 exact bg RA [⟨.agg [.b,.s,.b,.s],[(0,0,4),(0,2,5),(2,2,6)]⟩] Rz Tryz.func88 (by kernel_rfl)
  (lB (RE (z:=z) (n:=n) (Rw.To 2 (If z k) n (fun _ _ _ _ h=>h)) qQ rfl rfl (by omega) (by omega) (by omega) (by omega) hB)
   (lB (NP nI nI rfl rfl rfl (by omega) (Rx q _) rfl)
   aC))
  (aK [.fact 0 (.one (.s)),.fact 1 (.agg [.b,.s,.b,.s])] ⟨Rw.Is 2 (If z k) n,fun _ _ h=>bS.is h,trivial⟩) bh
section
variable {Φ:PH}{p q x x1 x2 n k kr kk i:Nat}{z:Nat->Int}{r:Rat}
end
section
variable {Φ:PH}{p q x n k kr kk:Nat}{z:Nat->Int}{r:Rat}
end
section
variable {Φ:PH}{p q x x1 x2 y n k kr kk kt kn:Nat}{z:Nat->Int}{r:Rat}
theorem CB {q':Rat}{t:Rat} (hp:∀w v,Φ p w v->Rw 2 (If z k) n w v) (hr:∀w v,Φ q w v->bS w v q' kt) (hx:Φ x=fun w v=>bk w v t (kn+kn)) (hx1:Φ x1=Nw t.num (kn+kn)) (hx2:Φ x2=Nw (t.den:Int) (kn+kn)) (hn:n<=1000000) (hk:k<=40000) (hkt:kt<=30000) (hkn:kn<=50000) (hB:∀j,j<=tl z n-1->Bd (hN z (tl z n) q'.num q'.den j).natAbs kn∧Bd (((q'.den:Nat):Int) ^ j).natAbs kn) (ht:Rat.divInt (hN z (tl z n) q'.num q'.den (tl z n-1)) (((q'.den:Nat):Int) ^ (tl z n-1))=t) :
  ai Φ Tryz.prog ⟨88,[.fact p,.fact q],[⟨qS,[(0,0,x),(0,2,x1),(2,2,x2)]⟩],false⟩:=
 bi (pat hn hk hkt hkn hB) ⟨hp,hr,trivial⟩ ⟨⟨rfl,⟨rfl,rfl,fun _ _ h=>hx▸ht▸h⟩,⟨rfl,rfl,fun _ _ h=>hx1▸ht▸h⟩,⟨rfl,rfl,fun _ _ h=>hx2▸ht▸h⟩,trivial⟩,trivial⟩
end
end Go.Proofs.YthmcngjhkmpneaaGreat.Sym
