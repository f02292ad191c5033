/- Ratio's functions by the symbolic walk. The reference's rationals: Quo, Make. The reference's Make, by the symbolic walk. The reference's rationals, what comes in, copies and checks, by the symbolic walk. -/
import Derived.Test.YthmcngjhkmpneaaGreatSymS
import Derived.Test.YthmcngjhkmpneaaGreatRats
set_option maxRecDepth 100000
namespace Go.Proofs.YthmcngjhkmpneaaGreat.Sym
open Go.RowKit
section
variable {Φ:PH}
theorem rz {p i:Nat}{z:Int}{r:Bool} (hp:∀w v,Φ p w v->aj w v z i) (hk:i<=1000000) (hr:decide (z=0)=r):ai Φ Tryz.prog ⟨162,[.fact p],[oL (.cb r)],false⟩:=
 da fun _ _ _ h0=>(K0 (hp _ _ (get h0)) hk hr).mono fun _ _ h=>nt h
theorem yB {w:World}{b:Bool}{s:Value}{z:Int}{k:Nat} (h:aj w (.agg #[.bool b,s]) z k) (h0:z≠0):b=decide (z<0):=by
 obtain ⟨b2,s2,X,e,h4,h5⟩:=h
 simp only [Value.agg.injEq,Array.mk.injEq,List.cons.injEq,Value.bool.injEq,and_true] at e
 obtain ⟨rfl,-⟩:=e
 cases b
 ·rw [h5];simp [sg]
 ·rw [h5] at h0 ⊢;simp [sg] at h0 ⊢;omega
theorem aj.lk {w:World}{v:Value}{z:Int}{k:Nat} (b:Bool) (h:aj w v z k) (h0:z≠0) (hb:decide (z<0)=b):(aR.agg [.lit (.cb b),.s]).is v:=by
 obtain ⟨b',p,n,c,rfl,h⟩:=h.open
 obtain rfl:b'=b:=(yB h h0).trans hb
 exact ⟨[.bool b',.slice p n c],rfl,rfl,⟨_,_,_,rfl⟩,trivial⟩
theorem QV.lk {w:World}{v:Value}{z y:Int}{k:Nat} (b:Bool) (h:QV w v z y k) (h0:y≠0) (hb:decide (y<0)=b):(aR.agg [.b,.s,.lit (.cb b),.s]).is v:=by
 obtain ⟨b1,p,n,c,b',p',n',c',rfl,h1,h2⟩:=h
 obtain rfl:b'=b:=(yB h2 h0).trans hb
 exact ⟨[.bool b1,.slice p n c,.bool b',.slice p' n' c'],rfl,⟨_,rfl⟩,⟨_,_,_,rfl⟩,rfl,⟨_,_,_,rfl⟩,trivial⟩
theorem jA {w:World}{v:Value}{z y:Int}{i j:Nat} (e:y=z) (hi:i<=j) (h:aj w v z i):aj w v y j:=by
 rw [e];exact h.more hi
def Ma (z y:Int) (k:Nat):List WP:=[fun w v=>QV w v z y k,Iw z k,Iw y k,Nw (1:Int) 2,Iw (pN z y) (k+2),Iw (pD y) (k+2)]
def Mb:List Out:=[⟨.agg [.b,.s,.b,.s],[(0,0,0),(0,2,1),(2,2,2)]⟩]
def Mc:List Site:=[⟨162,[.fact 2],oT,false⟩,
   ⟨75,[.lit (.ci .i64 1)],[oI 3],false⟩]
theorem Md {z y:Int}{k:Nat} (hk:k<=900000) (h0:y=0):ai (ph (Ma z y k)) Tryz.prog ⟨124,[.fact 0],[⟨iS,[(0,0,4)]⟩,⟨iS,[(0,0,5)]⟩],true⟩:=
 c5 Mb [oI 1,oI 3] Mc Tryz.func124 (by kernel_rfl)
  (all_cons (rz iI (by omega) (decide_eq_true h0))
   (all_cons (qX (z:=1) rfl (by decide) (by decide) rfl)
   all_nil))
  (aK [.sub 0 (.agg [.b,.s,.b,.s]) [(0,2,1),(2,2,2)]] ⟨⟨fun _ _ h=>QV.is h,fun _ _ h=>QV.fst h,fun _ _ h=>QV.snd h,trivial⟩,trivial⟩) (rA (weak fun _ _ h=>jA (by unfold pN;rw [if_neg (by omega)]) (by omega) h) (weak fun _ _ h=>jA (by unfold pD;rw [if_pos h0]) (by omega) h.i))
def Me (z y:Int) (k:Nat):List WP:=[fun w v=>QV w v z y k,Iw z k,Iw y k,Nw (-z) k,Nw (-y) k,Iw (pN z y) (k+2),Iw (pD y) (k+2)]
def Mf:List Out:=[⟨.agg [.b,.s,.lit (.cb true),.s],[(0,0,0),(0,2,1),(2,2,2)]⟩]
def Mg:List Site:=[⟨162,[.fact 2],oF,false⟩,
   ⟨106,[.fact 1],[oI 3],false⟩,
   ⟨106,[.fact 2],[oI 4],false⟩]
theorem Mh {z y:Int}{k:Nat} (hk:k<=900000) (h0:y<0):ai (ph (Me z y k)) Tryz.prog ⟨124,[.fact 0],[⟨iS,[(0,0,5)]⟩,⟨iS,[(0,0,6)]⟩],true⟩:=
 c5 Mf [oI 3,oI 4] Mg Tryz.func124 (by kernel_rfl)
  (all_cons (rz iI (by omega) (decide_eq_false (by omega)))
   (all_cons (rB iI rfl (by omega) rfl)
   (all_cons (rB iI rfl (by omega) rfl)
   all_nil)))
  (aK [.sub 0 (.agg [.b,.s,.lit (.cb true),.s]) [(0,2,1),(2,2,2)]] ⟨⟨fun _ _ h=>QV.lk true h (by omega) (decide_eq_true h0),fun _ _ h=>QV.fst h,fun _ _ h=>QV.snd h,trivial⟩,trivial⟩) (rA (weak fun _ _ h=>jA (by unfold pN;rw [if_pos h0]) (by omega) h.i) (weak fun _ _ h=>jA (by unfold pD;rw [if_neg (by omega),if_pos h0]) (by omega) h.i))
def Mi (z y:Int) (k:Nat):List WP:=[fun w v=>QV w v z y k,Iw z k,Iw y k,Iw (pN z y) (k+2),Iw (pD y) (k+2)]
def Mj:List Out:=[⟨.agg [.b,.s,.lit (.cb false),.s],[(0,0,0),(0,2,1),(2,2,2)]⟩]
def Mk:List Site:=[⟨162,[.fact 2],oF,false⟩]
theorem Ml {z y:Int}{k:Nat} (hk:k<=900000) (h0:0<y):ai (ph (Mi z y k)) Tryz.prog ⟨124,[.fact 0],[⟨iS,[(0,0,3)]⟩,⟨iS,[(0,0,4)]⟩],true⟩:=
 c5 Mj [oI 1,oI 2] Mk Tryz.func124 (by kernel_rfl)
  (all_cons (rz iI (by omega) (decide_eq_false (by omega)))
   all_nil)
  (aK [.sub 0 (.agg [.b,.s,.lit (.cb false),.s]) [(0,2,1),(2,2,2)]] ⟨⟨fun _ _ h=>QV.lk false h (by omega) (decide_eq_false (by omega)),fun _ _ h=>QV.fst h,fun _ _ h=>QV.snd h,trivial⟩,trivial⟩) (rA (weak fun _ _ h=>jA (by unfold pN;rw [if_neg (by omega)]) (by omega) h) (weak fun _ _ h=>jA (by unfold pD;rw [if_neg (by omega),if_neg (by omega)]) (by omega) h))
theorem Mm {p x x' k:Nat}{z y:Int} (hp:∀w v,Φ p w v->QV w v z y k) (hx:Φ x=Iw (pN z y) (k+2)) (hx':Φ x'=Iw (pD y) (k+2)) (hk:k<=900000):ai Φ Tryz.prog ⟨124,[.fact p],[⟨iS,[(0,0,x)]⟩,⟨iS,[(0,0,x')]⟩],true⟩:=
 da fun _ w v h0=>by
  have h:=hp _ _ (get h0)
  have key:Calls Tryz.prog 124 #[v] w (fun e w'=>w.grownBy w' none∧∃u u',e = .returned (.tuple #[u,u'])∧aj w' u (pN z y) (k+2)∧aj w' u' (pD y) (k+2)):=by
   rcases Int.lt_trichotomy y 0 with hy | hy | hy
   ·exact rC (Mh (z:=z) (y:=y) (k:=k) hk hy) (vs:=[v]) ⟨cW rfl (fun _ _ _ g h=>QV.kp h g) h,trivial⟩ fun u u' w' hg _ f1 _ f2=>⟨hg,u,u',rfl,f1 _ (List.mem_singleton.2 rfl),f2 _ (List.mem_singleton.2 rfl)⟩
   ·exact rC (Md (z:=z) (y:=y) (k:=k) hk hy) (vs:=[v]) ⟨cW rfl (fun _ _ _ g h=>QV.kp h g) h,trivial⟩ fun u u' w' hg _ f1 _ f2=>⟨hg,u,u',rfl,f1 _ (List.mem_singleton.2 rfl),f2 _ (List.mem_singleton.2 rfl)⟩
   ·exact rC (Ml (z:=z) (y:=y) (k:=k) hk hy) (vs:=[v]) ⟨cW rfl (fun _ _ _ g h=>QV.kp h g) h,trivial⟩ fun u u' w' hg _ f1 _ f2=>⟨hg,u,u',rfl,f1 _ (List.mem_singleton.2 rfl),f2 _ (List.mem_singleton.2 rfl)⟩
  refine key.mono fun e w' ⟨hg,u,u',he,h1,h2⟩=>⟨hg,[u,u'],he,?_,?_,trivial⟩
  ·obtain ⟨b,p,n,c,rfl,h1⟩:=h1.open;exact yC hx rfl h1
  ·obtain ⟨b,p,n,c,rfl,h2⟩:=h2.open;exact yC hx' rfl h2
def Mn (z y:Int) (i j k:Nat):List WP:=[Iw z i,Iw y j,Nw (Int.gcd z y:Int) k,Nw (-(Int.gcd z y:Int)) k,Nw ((Rat.divInt z y).num) i,Nw ((Rat.divInt z y).den:Int) j,fun w v=>bk w v (Rat.divInt z y) k]
def Mo:List Out:=[oI 0,⟨.agg [.lit (.cb true),.s],[(0,0,1)]⟩]
def Mp:List Site:=[⟨126,[.row 2 [0,1]],[oI 2],false⟩,
   ⟨106,[.fact 2],[oI 3],false⟩,
   ⟨128,[.fact 0,.fact 3],[oI 4,oL (.ci .i64 0)],true⟩,
   ⟨128,[.fact 1,.fact 3],[oI 5,oL (.ci .i64 0)],true⟩]
theorem Mq {z y:Int}{i j k:Nat} (hi:i<=k) (hj:j<=k) (hk:k<=400000) (h0:y<0) (eb : -(Int.gcd z y:Int)=bJ z y):ai (ph (Mn z y i j k)) Tryz.prog ⟨97,[.fact 0,.fact 1],[⟨qS,[(0,0,6)]⟩],false⟩:=
 c5 Mo [⟨.agg [.b,.s,.b,.s],[(0,2,4),(2,2,5)]⟩] Mp Tryz.func97 (by kernel_rfl)
  (all_cons (yD k iI iI rfl (by omega) (by omega) (by omega) rfl)
   (all_cons (rB nI rfl (by omega) rfl)
   (all_cons (je iI nI rfl (by omega) (by rw [eb];exact eS (by omega)) (by rw [eb];exact tG z y) (by rw [eb];exact ld (by omega)))
   (all_cons (je iI nI rfl (by omega) (by rw [eb];exact eS (by omega)) (by rw [eb];exact tI z y) (by rw [eb];exact lf (by omega)))
   all_nil))))
  (aK [.fact 0 (.agg [.b,.s]),.fact 1 (.agg [.lit (.cb true),.s])] ⟨fun _ _ h=>aj.is h,fun _ _ h=>aj.lk true h (by omega) (decide_eq_true h0),trivial⟩) (dR (halves fun _ _ hs h1 h2=>bk.join hs (ak.more h1 (by omega)) (ak.more h2 (by omega))))
def Mr (z y:Int) (i j k:Nat):List WP:=[Iw z i,Iw y j,Nw (Int.gcd z y:Int) k,Nw ((Rat.divInt z y).num) i,Nw ((Rat.divInt z y).den:Int) j,fun w v=>bk w v (Rat.divInt z y) k]
def Ms:List Out:=[oI 0,⟨.agg [.lit (.cb false),.s],[(0,0,1)]⟩]
def Mt:List Site:=[⟨126,[.row 2 [0,1]],[oI 2],false⟩,
   ⟨128,[.fact 0,.fact 2],[oI 3,oL (.ci .i64 0)],true⟩,
   ⟨128,[.fact 1,.fact 2],[oI 4,oL (.ci .i64 0)],true⟩]
theorem Mu {z y:Int}{i j k:Nat} (hi:i<=k) (hj:j<=k) (hk:k<=400000) (h0:0<y) (eb:(Int.gcd z y:Int)=bJ z y):ai (ph (Mr z y i j k)) Tryz.prog ⟨97,[.fact 0,.fact 1],[⟨qS,[(0,0,5)]⟩],false⟩:=
 c5 Ms [⟨.agg [.b,.s,.b,.s],[(0,2,3),(2,2,4)]⟩] Mt Tryz.func97 (by kernel_rfl)
  (all_cons (yD k iI iI rfl (by omega) (by omega) (by omega) rfl)
   (all_cons (je iI nI rfl (by omega) (by rw [eb];exact eS (by omega)) (by rw [eb];exact tG z y) (by rw [eb];exact ld (by omega)))
   (all_cons (je iI nI rfl (by omega) (by rw [eb];exact eS (by omega)) (by rw [eb];exact tI z y) (by rw [eb];exact lf (by omega)))
   all_nil)))
  (aK [.fact 0 (.agg [.b,.s]),.fact 1 (.agg [.lit (.cb false),.s])] ⟨fun _ _ h=>aj.is h,fun _ _ h=>aj.lk false h (by omega) (decide_eq_false (by omega)),trivial⟩) (dR (halves fun _ _ hs h1 h2=>bk.join hs (ak.more h1 (by omega)) (ak.more h2 (by omega))))
theorem Mv {v u:Value}{z y:Int}{t:Rat}{i j:Nat} (k:Nat){w:World} (hz:aj w v z i) (hy:aj w u y j) (hi:i<=k) (hj:j<=k) (hk:k<=400000) (h0:y≠0) (ht:Rat.divInt z y=t):Calls Tryz.prog 97 #[v,u] w (gS w t k):=by
 subst ht
 rcases Int.lt_or_gt_of_ne h0 with h | h
 ·exact nw (Mq hi hj hk h (by rw [bJ,if_pos h])) rfl (vs:=[v,u]) ⟨cW rfl (fun _ _ _ g h=>aj.kp h g) hz,cW rfl (fun _ _ _ g h=>aj.kp h g) hy,trivial⟩
 ·exact nw (Mu hi hj hk h (by rw [bJ,if_neg (by omega)])) rfl (vs:=[v,u]) ⟨cW rfl (fun _ _ _ g h=>aj.kp h g) hz,cW rfl (fun _ _ _ g h=>aj.kp h g) hy,trivial⟩
theorem Mw {p q x x1 x2 i j:Nat}{z y:Int}{t:Rat} (k:Nat) (hp:∀w v,Φ p w v->aj w v z i) (hq:∀w v,Φ q w v->aj w v y j) (hx:Φ x=fun w v=>bk w v t k) (hx1:Φ x1=Nw t.num k) (hx2:Φ x2=Nw (t.den:Int) k) (hi:i<=k) (hj:j<=k) (hk:k<=400000) (h0':y≠0) (ht:Rat.divInt z y=t):ai Φ Tryz.prog ⟨97,[.fact p,.fact q],[⟨qS,[(0,0,x),(0,2,x1),(2,2,x2)]⟩],false⟩:=
 dj fun _ _ _ _ h0 h1=>(Mv k (hp _ _ (get h0)) (hq _ _ (get h1)) hi hj hk h0' ht).mono fun _ _ h=>pp hx hx1 hx2 h
def Sw (z y:Int) (t:Rat) (i j:Nat):List WP:=[Iw z i,Iw y j,fun w v=>bk w v t (i+j),Nw t.num (i+j),Nw (t.den:Int) (i+j)]
def Sz:List Out:=[oI 0,oI 1]
def SA:List Site:=[⟨162,[.fact 1],oF,false⟩,
   ⟨97,[.fact 0,.fact 1],[⟨.agg [.b,.s,.b,.s],[(0,0,2),(0,2,3),(2,2,4)]⟩],false⟩]
theorem SB {z y:Int}{t:Rat}{i j:Nat} (hk:i+j<=200000) (h0:y≠0) (ht:Rat.divInt z y=t):ai (ph (Sw z y t i j)) Tryz.prog ⟨133,[.fact 0,.fact 1],[oR 2,oL (.ci .i64 0)],true⟩:=
 c5 Sz [oR 2,oL (.ci .i64 0)] SA Tryz.func133 (by kernel_rfl)
  (all_cons (rz iI (by omega) (decide_eq_false h0))
   (all_cons (Mw (i+j) iI iI rfl rfl rfl (by omega) (by omega) (by omega) h0 ht)
   all_nil))
  (aK [.fact 0 (.agg [.b,.s]),.fact 1 (.agg [.b,.s])] ⟨fun _ _ h=>aj.is h,fun _ _ h=>aj.is h,trivial⟩) bh
theorem _root_.Go.Proofs.YthmcngjhkmpneaaGreat.SC {v u:Value}{z y:Int}{i j:Nat}{w:World} (hz:aj w v z i) (hy:aj w u y j){t:Rat} (hk:i+j<=200000) (h0:y≠0) (ht:Rat.divInt z y=t):Calls Tryz.prog 133 #[v,u] w (uI w t (i+j)):=by
 exact Ow (SB hk h0 ht) rfl (vs:=[v,u]) ⟨cW rfl (fun _ _ _ g h=>aj.kp h g) hz,cW rfl (fun _ _ _ g h=>aj.kp h g) hy,trivial⟩
theorem NP {p q x x1 x2 i j:Nat}{z:Int}{y:Int}{t:Rat} (hp:∀w v,Φ p w v->aj w v z i) (hq:∀w v,Φ q w v->aj w v y j) (hx:Φ x=fun w v=>bk w v t (i+j)) (hx1:Φ x1=Nw t.num (i+j)) (hx2:Φ x2=Nw (t.den:Int) (i+j)) (hk:i+j<=200000) (h0':y≠0) (ht:Rat.divInt z y=t):ai Φ Tryz.prog ⟨133,[.fact p,.fact q],[⟨qS,[(0,0,x),(0,2,x1),(2,2,x2)]⟩,oL (.ci .i64 0)],true⟩:=
 dj fun _ _ _ _ h0 h1=>(SC (hp _ _ (get h0)) (hq _ _ (get h1)) hk h0' ht).mono fun _ _ h=>Oo hx hx1 hx2 h
theorem SD (z:Int):(z:Rat).num=z:=by simp
theorem SE (z:Int):(((z:Rat).den:Nat):Int)=1:=by simp
def SF (z:Int) (i:Nat):List WP:=[Iw z i,Nw z i,Nw (1:Int) 2,fun w v=>bk w v (z:Rat) (i+2)]
def SG:List Out:=[oI 0]
def SH:List Site:=[⟨93,[.fact 0],[oI 1],false⟩,
   ⟨75,[.lit (.ci .i64 1)],[oI 2],false⟩]
theorem SI {z:Int}{i:Nat} (hk:i<=200000):ai (ph (SF z i)) Tryz.prog ⟨85,[.fact 0],[⟨qS,[(0,0,3)]⟩],false⟩:=
 c5 SG [⟨.agg [.b,.s,.b,.s],[(0,2,1),(2,2,2)]⟩] SH Tryz.func85 (by kernel_rfl)
  (all_cons (uD iI rfl (by omega) rfl)
   (all_cons (qX (z:=1) rfl (by decide) (by decide) rfl)
   all_nil))
  (aK [.fact 0 (.agg [.b,.s])] ⟨fun _ _ h=>aj.is h,trivial⟩) (dR (halves fun _ _ hs h1 h2=>bk.join hs (ak.more (ak.eq h1 (SD z).symm) (by omega)) (ak.more (ak.eq h2 (SE z).symm) (by omega))))
theorem _root_.Go.Proofs.YthmcngjhkmpneaaGreat.Se {v:Value}{z:Int}{i:Nat}{w:World} (hz:aj w v z i) (hk:i<=200000):Calls Tryz.prog 85 #[v] w (gS w (z:Rat) (i+2)):=by
 exact nw (SI hk) rfl (vs:=[v]) ⟨cW rfl (fun _ _ _ g h=>aj.kp h g) hz,trivial⟩
def SJ (z y z' y':Int) (i j:Nat):List WP:=[fun w v=>QV w v z y i,Iw z i,Iw y i,fun w v=>QV w v z' y' j,Iw z' j,Iw y' j,Iw (pN z y) (i+2),Iw (pD y) (i+2),Iw (pN z' y') (j+2),Iw (pD y') (j+2),Nw ((pN z y)*(pD y')) ((i+2)+(j+2)),Nw ((pN z' y')*(pD y)) ((j+2)+(i+2)),Nw (((pN z y)*(pD y'))+((pN z' y')*(pD y))) (((i+2)+(j+2))+((j+2)+(i+2))+1),Nw ((pD y)*(pD y')) ((i+2)+(j+2)),Iw (pN z y*pD y'+pN z' y'*pD y) (2*(i+j)+9),Iw (pD y*pD y') (2*(i+j)+9)]
def SK:List Out:=[⟨.agg [.b,.s,.b,.s],[(0,0,0),(0,2,1),(2,2,2)]⟩,⟨.agg [.b,.s,.b,.s],[(0,0,3),(0,2,4),(2,2,5)]⟩]
def SM:List Site:=[⟨124,[.fact 0],[oI 6,oI 7],true⟩,
   ⟨124,[.fact 3],[oI 8,oI 9],true⟩,
   ⟨44,[.fact 6,.fact 9],[oI 10],false⟩,
   ⟨44,[.fact 8,.fact 7],[oI 11],false⟩,
   ⟨67,[.fact 10,.fact 11],[oI 12],false⟩,
   ⟨44,[.fact 7,.fact 9],[oI 13],false⟩]
theorem SN {z y z' y':Int}{i j:Nat} (hk:i+j<=200000):ai (ph (SJ z y z' y' i j)) Tryz.prog ⟨98,[.fact 0,.fact 3],[⟨iS,[(0,0,14)]⟩,⟨iS,[(0,0,15)]⟩],true⟩:=
 c5 SK [oI 12,oI 13] SM Tryz.func98 (by kernel_rfl)
  (all_cons (Mm ad rfl rfl (by omega))
   (all_cons (Mm ad rfl rfl (by omega))
   (all_cons (jr iI iI rfl (by omega) rfl)
   (all_cons (jr iI iI rfl (by omega) rfl)
   (all_cons (Jg nI nI rfl (by omega) rfl)
   (all_cons (jr iI iI rfl (by omega) rfl)
   all_nil))))))
  (aK [.sub 0 (.agg [.b,.s,.b,.s]) [(0,2,1),(2,2,2)],.sub 3 (.agg [.b,.s,.b,.s]) [(0,2,4),(2,2,5)]] ⟨⟨fun _ _ h=>QV.is h,fun _ _ h=>QV.fst h,fun _ _ h=>QV.snd h,trivial⟩,⟨fun _ _ h=>QV.is h,fun _ _ h=>QV.fst h,fun _ _ h=>QV.snd h,trivial⟩,trivial⟩) (rA (weak fun _ _ h=>(ak.i h).more (by omega)) (weak fun _ _ h=>(ak.i h).more (by omega)))
theorem SO {p q x x' i j:Nat}{z y z' y':Int} (hp:∀w v,Φ p w v->QV w v z y i) (hq:∀w v,Φ q w v->QV w v z' y' j) (hx:Φ x=Iw (pN z y*pD y'+pN z' y'*pD y) (2*(i+j)+9)) (hx':Φ x'=Iw (pD y*pD y') (2*(i+j)+9)) (hk:i+j<=200000):ai Φ Tryz.prog ⟨98,[.fact p,.fact q],[⟨iS,[(0,0,x)]⟩,⟨iS,[(0,0,x')]⟩],true⟩:=
 dj fun _ w v u h0 h1=>rC (SN (z:=z) (y:=y) (z':=z') (y':=y') hk) (vs:=[v,u]) ⟨cW rfl (fun _ _ _ g h=>QV.kp h g) (hp _ _ (get h0)),cW rfl (fun _ _ _ g h=>QV.kp h g) (hq _ _ (get h1)),trivial⟩ fun a b w' hg _ f1 _ f2=>by
  have h1:aj w' a (pN z y*pD y'+pN z' y'*pD y) (2*(i+j)+9):=f1 _ (List.mem_singleton.2 rfl)
  have h2:aj w' b (pD y*pD y') (2*(i+j)+9):=f2 _ (List.mem_singleton.2 rfl)
  refine ⟨hg,[a,b],rfl,?_,?_,trivial⟩
  ·obtain ⟨b',p,n,c,rfl,h1⟩:=h1.open;exact yC hx rfl h1
  ·obtain ⟨b',p,n,c,rfl,h2⟩:=h2.open;exact yC hx' rfl h2
def SP (z y z' y':Int) (t:Rat) (i j:Nat):List WP:=[fun w v=>QV w v z y i,Iw z i,Iw y i,fun w v=>QV w v z' y' j,Iw z' j,Iw y' j,Iw (pN z y*pD y'+pN z' y'*pD y) (2*(i+j)+9),Iw (pD y*pD y') (2*(i+j)+9),fun w v=>bk w v t (2*(i+j)+9),Nw t.num (2*(i+j)+9),Nw (t.den:Int) (2*(i+j)+9)]
def SQ:List Out:=[⟨.agg [.b,.s,.b,.s],[(0,0,0),(0,2,1),(2,2,2)]⟩,⟨.agg [.b,.s,.b,.s],[(0,0,3),(0,2,4),(2,2,5)]⟩]
def SR:List Site:=[⟨98,[.fact 0,.fact 3],[oI 6,oI 7],true⟩,
   ⟨97,[.fact 6,.fact 7],[⟨.agg [.b,.s,.b,.s],[(0,0,8),(0,2,9),(2,2,10)]⟩],false⟩]
theorem SS {z y z' y':Int}{t:Rat}{i j:Nat} (hk:i+j<=100000) (ht:aD z y+aD z' y'=t):ai (ph (SP z y z' y' t i j)) Tryz.prog ⟨45,[.fact 0,.fact 3],[oR 8],false⟩:=
 c5 SQ [oR 8] SR Tryz.func45 (by kernel_rfl)
  (all_cons (SO ad ad rfl rfl (by omega))
   (all_cons (Mw (2*(i+j)+9) iI iI rfl rfl rfl (by omega) (by omega) (by omega) (Int.mul_ne_zero (Kz _) (Kz _)) (by rw [<- ht,KA,KA,Sb (Ky _) (Ky _)]))
   all_nil))
  (aK [.sub 0 (.agg [.b,.s,.b,.s]) [(0,2,1),(2,2,2)],.sub 3 (.agg [.b,.s,.b,.s]) [(0,2,4),(2,2,5)]] ⟨⟨fun _ _ h=>QV.is h,fun _ _ h=>QV.fst h,fun _ _ h=>QV.snd h,trivial⟩,⟨fun _ _ h=>QV.is h,fun _ _ h=>QV.fst h,fun _ _ h=>QV.snd h,trivial⟩,trivial⟩) bh
theorem _root_.Go.Proofs.YthmcngjhkmpneaaGreat.ST {v u:Value}{q r:Rat}{i j:Nat}{w:World} (hx:bS w v q i) (hy:bS w u r j){t:Rat} (hk:i+j<=100000) (ht:q+r=t):Calls Tryz.prog 45 #[v,u] w (gS w t (2*(i+j)+9)):=by
 obtain ⟨z,y,hX,rfl⟩:=bS.qv hx
 obtain ⟨z',y',hY,rfl⟩:=bS.qv hy
 exact nw (SS (z:=z) (y:=y) (z':=z') (y':=y') (i:=i) (j:=j) hk ht) rfl (vs:=[v,u]) ⟨cW rfl (fun _ _ _ g h=>QV.kp h g) hX,cW rfl (fun _ _ _ g h=>QV.kp h g) hY,trivial⟩
theorem QR {p q x x1 x2 i j:Nat}{z:Rat}{y:Rat}{t:Rat} (hp:∀w v,Φ p w v->bS w v z i) (hq:∀w v,Φ q w v->bS w v y j) (hx:Φ x=fun w v=>bk w v t (2*(i+j)+9)) (hx1:Φ x1=Nw t.num (2*(i+j)+9)) (hx2:Φ x2=Nw (t.den:Int) (2*(i+j)+9)) (hk:i+j<=100000) (ht:z+y=t):ai Φ Tryz.prog ⟨45,[.fact p,.fact q],[⟨qS,[(0,0,x),(0,2,x1),(2,2,x2)]⟩],false⟩:=
 dj fun _ _ _ _ h0 h1=>(ST (hp _ _ (get h0)) (hq _ _ (get h1)) hk ht).mono fun _ _ h=>pp hx hx1 hx2 h
def QVb (w:World) (v:Value) (b:Bool) (z y:Int) (k:Nat):Prop:=∃s b' s',v = .agg #[.bool b,s,.bool b',s']∧Num w s z.natAbs k∧z=sg b z.natAbs∧aj w (.agg #[.bool b',s']) y k
theorem QVb.kp {w w':World}{v:Value}{b:Bool}{z y:Int}{k:Nat} (h:QVb w v b z y k) (g:Kp w w'):QVb w' v b z y k:=by
 obtain ⟨s,b',s',h1,h2,h3,h4⟩:=h
 exact ⟨s,b',s',h1,h2.kp g,h3,h4.kp g⟩
theorem QV.vb {w:World}{v:Value}{z y:Int}{k:Nat} (h:QV w v z y k):∃b,QVb w v b z y k:=by
 obtain ⟨b,p,n,c,b',p',n',c',rfl,h1,h2⟩:=h
 obtain ⟨b1,s1,X,e,h3,h4⟩:=h1
 simp only [Value.agg.injEq,Array.mk.injEq,List.cons.injEq,Value.bool.injEq,and_true] at e
 obtain ⟨rfl,rfl⟩:=e
 have e2:z.natAbs=X:=by rw [h4];exact cC _ _
 exact ⟨b,_,b',_,rfl,by rw [e2];exact h3,by rw [e2];exact h4,h2⟩
theorem QVb.is {w:World}{v:Value}{b:Bool}{z y:Int}{k:Nat} (h:QVb w v b z y k):(aR.agg [.lit (.cb b),.s,.b,.s]).is v:=by
 obtain ⟨s,b',s',rfl,h1,h2,h3⟩:=h
 obtain ⟨p,n,c,rfl⟩:=h1.slice
 obtain ⟨b2,p',n',c',e,h3⟩:=h3.open
 simp only [Value.agg.injEq,Array.mk.injEq,List.cons.injEq,Value.bool.injEq,and_true] at e
 obtain ⟨rfl,rfl⟩:=e
 exact ⟨[_,_,_,_],rfl,rfl,⟨_,_,_,rfl⟩,⟨_,rfl⟩,⟨_,_,_,rfl⟩,trivial⟩
theorem QVb.num {w:World}{v:Value}{b:Bool}{z y:Int}{k:Nat} (h:QVb w v b z y k):Num w (aN 1 1 v) z.natAbs k:=by
 obtain ⟨s,b',s',rfl,h1,h2,h3⟩:=h;exact h1
theorem QVb.snd {w:World}{v:Value}{b:Bool}{z y:Int}{k:Nat} (h:QVb w v b z y k):aj w (aN 2 2 v) y k:=by
 obtain ⟨s,b',s',rfl,h1,h2,h3⟩:=h;exact h3
theorem Mz {z y:Int}{k p1 p2 x:Nat} (h1:∀w v,Φ p1 w v->Num w v z.natAbs k) (h2:∀w v,Φ p2 w v->aj w v y k) (hx:Φ x=fun w v=>QV w v (-z) y k) (hs:z=sg true z.natAbs){X:Nat->Prop}{w:World}{v:Value}
  (h:(aR.agg [.lit (.cb false),.s,.b,.s]).is v∧∀q,q ∈ [(1,1,p1),(2,2,p2)]->∀w1,Off X w w1->Φ q.2.2 w1 (aN q.1 q.2.1 v)):qS.is v∧∀q,q ∈ [(0,0,x)]->∀w1,Off X w w1->Φ q.2.2 w1 (aN q.1 q.2.1 v):=by
 obtain ⟨⟨us,rfl,hu⟩,hf⟩:=h
 match us,hu with
 | [v0,v1,v2,v3],hu=>
  obtain ⟨e0,⟨p,n,c,rfl⟩,⟨b',rfl⟩,⟨p',n',c',rfl⟩,_⟩:=hu
  obtain rfl:v0 = .bool false:=e0
  refine ⟨jB,fun q hq w1 hw=>?_⟩
  simp only [List.mem_singleton] at hq
  subst hq
  have a1:=h1 _ _ (hf (1,1,p1) (by simp) w1 hw)
  have a2:=h2 _ _ (hf (2,2,p2) (by simp) w1 hw)
  show Φ x w1 _
  rw [hx]
  exact ⟨_,_,_,_,_,_,_,_,rfl,⟨_,_,_,rfl,a1,by have h0:=hs;simp [sg] at h0 ⊢;omega⟩,a2⟩
theorem MA {z y:Int}{k p1 p2 x:Nat} (h1:∀w v,Φ p1 w v->Num w v z.natAbs k) (h2:∀w v,Φ p2 w v->aj w v y k) (hx:Φ x=fun w v=>QV w v (-z) y k) (hs:z=sg false z.natAbs){X:Nat->Prop}{w:World}{v:Value}
  (h:(aR.agg [.lit (.cb true),.s,.b,.s]).is v∧∀q,q ∈ [(1,1,p1),(2,2,p2)]->∀w1,Off X w w1->Φ q.2.2 w1 (aN q.1 q.2.1 v)):qS.is v∧∀q,q ∈ [(0,0,x)]->∀w1,Off X w w1->Φ q.2.2 w1 (aN q.1 q.2.1 v):=by
 obtain ⟨⟨us,rfl,hu⟩,hf⟩:=h
 match us,hu with
 | [v0,v1,v2,v3],hu=>
  obtain ⟨e0,⟨p,n,c,rfl⟩,⟨b',rfl⟩,⟨p',n',c',rfl⟩,_⟩:=hu
  obtain rfl:v0 = .bool true:=e0
  refine ⟨jB,fun q hq w1 hw=>?_⟩
  simp only [List.mem_singleton] at hq
  subst hq
  have a1:=h1 _ _ (hf (1,1,p1) (by simp) w1 hw)
  have a2:=h2 _ _ (hf (2,2,p2) (by simp) w1 hw)
  show Φ x w1 _
  rw [hx]
  exact ⟨_,_,_,_,_,_,_,_,rfl,⟨_,_,_,rfl,a1,by have h0:=hs;simp [sg] at h0 ⊢;omega⟩,a2⟩
def MB (z y:Int) (k:Nat):List WP:=[fun w v=>QVb w v true z y k,fun w v=>Num w v z.natAbs k,Iw y k,fun w v=>QV w v (-z) y k]
def MC:List Out:=[⟨.agg [.lit (.cb true),.s,.b,.s],[(0,0,0),(1,1,1),(2,2,2)]⟩]
def MD:List Site:=[]
theorem ME {z y:Int}{k:Nat} (hs:z=sg true z.natAbs)  : ai (ph (MB z y k)) Tryz.prog ⟨125,[.fact 0],[⟨qS,[(0,0,3)]⟩],false⟩:=
 c5 MC [⟨.agg [.lit (.cb false),.s,.b,.s],[(1,1,1),(2,2,2)]⟩] MD Tryz.func125 (by kernel_rfl)
  all_nil
  (aK [.sub 0 (.agg [.lit (.cb true),.s,.b,.s]) [(1,1,1),(2,2,2)]] ⟨⟨fun _ _ h=>QVb.is h,fun _ _ h=>QVb.num h,fun _ _ h=>QVb.snd h,trivial⟩,trivial⟩) (dR fun X w v h=>Mz ad ad rfl hs h)
def MF (z y:Int) (k:Nat):List WP:=[fun w v=>QVb w v false z y k,fun w v=>Num w v z.natAbs k,Iw y k,fun w v=>QV w v (-z) y k]
def MG:List Out:=[⟨.agg [.lit (.cb false),.s,.b,.s],[(0,0,0),(1,1,1),(2,2,2)]⟩]
def MH:List Site:=[]
theorem MI {z y:Int}{k:Nat} (hs:z=sg false z.natAbs)  : ai (ph (MF z y k)) Tryz.prog ⟨125,[.fact 0],[⟨qS,[(0,0,3)]⟩],false⟩:=
 c5 MG [⟨.agg [.lit (.cb true),.s,.b,.s],[(1,1,1),(2,2,2)]⟩] MH Tryz.func125 (by kernel_rfl)
  all_nil
  (aK [.sub 0 (.agg [.lit (.cb false),.s,.b,.s]) [(1,1,1),(2,2,2)]] ⟨⟨fun _ _ h=>QVb.is h,fun _ _ h=>QVb.num h,fun _ _ h=>QVb.snd h,trivial⟩,trivial⟩) (dR fun X w v h=>MA ad ad rfl hs h)
theorem MJ {p x k:Nat}{z y:Int} (hp:∀w v,Φ p w v->QV w v z y k) (hx:Φ x=fun w v=>QV w v (-z) y k):ai Φ Tryz.prog ⟨125,[.fact p],[⟨qS,[(0,0,x)]⟩],false⟩:=
 da fun _ w v h0=>by
  obtain ⟨b,h⟩:=(hp _ _ (get h0)).vb
  have hs:z=sg b z.natAbs:=by obtain ⟨_,_,_,_,_,h2,_⟩:=id h;exact h2
  have key:Calls Tryz.prog 125 #[v] w (fun e w'=>w.grownBy w' none∧∃u,e = .returned u∧QV w' u (-z) y k):=by
   cases b
   ·exact lm (MI hs) (vs:=[v]) ⟨cW rfl (fun _ _ _ g h=>QVb.kp h g) h,trivial⟩ fun u w' hg _ f1=>⟨hg,u,rfl,f1 _ (List.mem_singleton.2 rfl)⟩
   ·exact lm (ME hs) (vs:=[v]) ⟨cW rfl (fun _ _ _ g h=>QVb.kp h g) h,trivial⟩ fun u w' hg _ f1=>⟨hg,u,rfl,f1 _ (List.mem_singleton.2 rfl)⟩
  exact key.mono fun e w' ⟨hg,u,he,h1⟩=>⟨hg,[u],he,o1 (F:=fun w v=>QV w v (-z) y k) (fun _ _ _ g h=>QV.kp h g) hx (QV.is h1) h1,trivial⟩
theorem _root_.Go.Proofs.YthmcngjhkmpneaaGreat.MK (z y:Int):aD (-z) y = -aD z y:=by
 unfold aD;split <;> rw [Rat.neg_divInt]
def ML (z y:Int) (t:Rat) (i:Nat):List WP:=[fun w v=>QV w v z y i,Iw z i,Iw y i,fun w v=>QV w v (-z) y i,Iw (pN (-z) y) (i+2),Iw (pD y) (i+2),fun w v=>bk w v t (i+2),Nw t.num (i+2),Nw (t.den:Int) (i+2)]
def MM:List Out:=[⟨.agg [.b,.s,.b,.s],[(0,0,0),(0,2,1),(2,2,2)]⟩]
def MN:List Site:=[⟨125,[.fact 0],[oR 3],false⟩,
   ⟨124,[.fact 3],[oI 4,oI 5],true⟩,
   ⟨97,[.fact 4,.fact 5],[⟨.agg [.b,.s,.b,.s],[(0,0,6),(0,2,7),(2,2,8)]⟩],false⟩]
theorem MO {z y:Int}{t:Rat}{i:Nat} (hk:i<=100000) (ht : -aD z y=t):ai (ph (ML z y t i)) Tryz.prog ⟨79,[.fact 0],[oR 6],false⟩:=
 c5 MM [oR 6] MN Tryz.func79 (by kernel_rfl)
  (all_cons (MJ ad rfl)
   (all_cons (Mm ad rfl rfl (by omega))
   (all_cons (Mw (i+2) iI iI rfl rfl rfl (by omega) (by omega) (by omega) (Kz _) (by rw [<- ht,<- MK,KA]))
   all_nil)))
  (aK [.sub 0 (.agg [.b,.s,.b,.s]) [(0,2,1),(2,2,2)]] ⟨⟨fun _ _ h=>QV.is h,fun _ _ h=>QV.fst h,fun _ _ h=>QV.snd h,trivial⟩,trivial⟩) bh
theorem _root_.Go.Proofs.YthmcngjhkmpneaaGreat.MP {v:Value}{q:Rat}{i:Nat}{w:World} (hx:bS w v q i){t:Rat} (hk:i<=100000) (ht : -q=t):Calls Tryz.prog 79 #[v] w (gS w t (i+2)):=by
 obtain ⟨z,y,hX,rfl⟩:=bS.qv hx
 exact nw (MO hk ht) rfl (vs:=[v]) ⟨cW rfl (fun _ _ _ g h=>QV.kp h g) hX,trivial⟩
theorem _root_.Go.Proofs.YthmcngjhkmpneaaGreat.SU {n d:Int} (hd:0<d):Rat.divInt n d=0 ↔ n=0:=by
 rw [show (0:Rat)=Rat.divInt 0 1 by simp,NS hd (by omega)];omega
theorem _root_.Go.Proofs.YthmcngjhkmpneaaGreat.SW {d n e:Int} (hd:0<d) (he:0<e) (h:Rat.divInt n e≠0):d*n≠0:=Int.mul_ne_zero (by omega) (fun h0=>h ((SU he).2 h0))
def SX (z y z' y':Int) (t:Rat) (i j:Nat):List WP:=[fun w v=>QV w v z y i,Iw z i,Iw y i,fun w v=>QV w v z' y' j,Iw z' j,Iw y' j,Iw (pN z y) (i+2),Iw (pD y) (i+2),Iw (pN z' y') (j+2),Iw (pD y') (j+2),Nw ((pN z y)*(pD y')) ((i+2)+(j+2)),Nw ((pD y)*(pN z' y')) ((i+2)+(j+2)),fun w v=>bk w v t (((i+2)+(j+2))+((i+2)+(j+2))),Nw t.num (((i+2)+(j+2))+((i+2)+(j+2))),Nw (t.den:Int) (((i+2)+(j+2))+((i+2)+(j+2))),fun w v=>bk w v t (2*(i+j)+8)]
def SY:List Out:=[⟨.agg [.b,.s,.b,.s],[(0,0,0),(0,2,1),(2,2,2)]⟩,⟨.agg [.b,.s,.b,.s],[(0,0,3),(0,2,4),(2,2,5)]⟩]
def SZ:List Site:=[⟨124,[.fact 0],[oI 6,oI 7],true⟩,
   ⟨124,[.fact 3],[oI 8,oI 9],true⟩,
   ⟨44,[.fact 6,.fact 9],[oI 10],false⟩,
   ⟨44,[.fact 7,.fact 8],[oI 11],false⟩,
   ⟨133,[.fact 10,.fact 11],[⟨.agg [.b,.s,.b,.s],[(0,0,12),(0,2,13),(2,2,14)]⟩,oL (.ci .i64 0)],true⟩]
theorem Ta {z y z' y':Int}{t:Rat}{i j:Nat} (hk:i+j<=50000) (h0:aD z' y'≠0) (ht:aD z y / aD z' y'=t):ai (ph (SX z y z' y' t i j)) Tryz.prog ⟨87,[.fact 0,.fact 3],[⟨qS,[(0,0,15)]⟩,oL (.ci .i64 0)],true⟩:=
 c5 SY [oR 12,oL (.ci .i64 0)] SZ Tryz.func87 (by kernel_rfl)
  (all_cons (Mm ad rfl rfl (by omega))
   (all_cons (Mm ad rfl rfl (by omega))
   (all_cons (jr iI iI rfl (by omega) rfl)
   (all_cons (jr iI iI rfl (by omega) rfl)
   (all_cons (NP nI nI rfl rfl rfl (by omega) (SW (Ky _) (Ky y') (by rw [<- KA];exact h0)) (by rw [<- ht,KA,KA,Sc]))
   all_nil)))))
  (aK [.sub 0 (.agg [.b,.s,.b,.s]) [(0,2,1),(2,2,2)],.sub 3 (.agg [.b,.s,.b,.s]) [(0,2,4),(2,2,5)]] ⟨⟨fun _ _ h=>QV.is h,fun _ _ h=>QV.fst h,fun _ _ h=>QV.snd h,trivial⟩,⟨fun _ _ h=>QV.is h,fun _ _ h=>QV.fst h,fun _ _ h=>QV.snd h,trivial⟩,trivial⟩) (rA (weak fun _ _ h=>bk.more h (by omega)) bh)
theorem _root_.Go.Proofs.YthmcngjhkmpneaaGreat.Sf {v u:Value}{q r:Rat}{i j:Nat}{w:World} (hx:bS w v q i) (hy:bS w u r j){t:Rat} (hk:i+j<=50000) (h0:r≠0) (ht:q / r=t):Calls Tryz.prog 87 #[v,u] w (uI w t (2*(i+j)+8)):=by
 obtain ⟨z,y,hX,rfl⟩:=bS.qv hx
 obtain ⟨z',y',hY,rfl⟩:=bS.qv hy
 exact Ow (Ta (z:=z) (y:=y) (z':=z') (y':=y') (i:=i) (j:=j) hk h0 ht) rfl (vs:=[v,u]) ⟨cW rfl (fun _ _ _ g h=>QV.kp h g) hX,cW rfl (fun _ _ _ g h=>QV.kp h g) hY,trivial⟩
theorem _root_.Go.Proofs.YthmcngjhkmpneaaGreat.Tc {n d m e:Int} (hd:0<d) (he:0<e):cj (n*e) (m*d)=pG (Rat.divInt n d) (Rat.divInt m e):=by
 unfold cj pG
 simp only [Sa hd he,NS hd he]
def Te (z y z' y' t:Int) (i j:Nat):List WP:=[fun w v=>QV w v z y i,Iw z i,Iw y i,fun w v=>QV w v z' y' j,Iw z' j,Iw y' j,Iw (pN z y) (i+2),Iw (pD y) (i+2),Iw (pN z' y') (j+2),Iw (pD y') (j+2),Nw ((pN z y)*(pD y')) ((i+2)+(j+2)),Nw ((pN z' y')*(pD y)) ((j+2)+(i+2)),Ni t]
def Tf:List Out:=[⟨.agg [.b,.s,.b,.s],[(0,0,0),(0,2,1),(2,2,2)]⟩,⟨.agg [.b,.s,.b,.s],[(0,0,3),(0,2,4),(2,2,5)]⟩]
def Tg:List Site:=[⟨124,[.fact 0],[oI 6,oI 7],true⟩,
   ⟨124,[.fact 3],[oI 8,oI 9],true⟩,
   ⟨44,[.fact 6,.fact 9],[oI 10],false⟩,
   ⟨44,[.fact 8,.fact 7],[oI 11],false⟩,
   ⟨74,[.fact 10,.fact 11],[oN 12],false⟩]
theorem Th {z y z' y' t:Int}{i j:Nat} (hk:i+j<=100000) (ht:pG (aD z y) (aD z' y')=t):ai (ph (Te z y z' y' t i j)) Tryz.prog ⟨188,[.fact 0,.fact 3],[oN 12],false⟩:=
 c5 Tf [oN 12] Tg Tryz.func188 (by kernel_rfl)
  (all_cons (Mm ad rfl rfl (by omega))
   (all_cons (Mm ad rfl rfl (by omega))
   (all_cons (jr iI iI rfl (by omega) rfl)
   (all_cons (jr iI iI rfl (by omega) rfl)
   (all_cons (ir nI nI rfl (by omega) (by rw [<- ht,KA,KA,Tc (Ky _) (Ky _)]))
   all_nil)))))
  (aK [.sub 0 (.agg [.b,.s,.b,.s]) [(0,2,1),(2,2,2)],.sub 3 (.agg [.b,.s,.b,.s]) [(0,2,4),(2,2,5)]] ⟨⟨fun _ _ h=>QV.is h,fun _ _ h=>QV.fst h,fun _ _ h=>QV.snd h,trivial⟩,⟨fun _ _ h=>QV.is h,fun _ _ h=>QV.fst h,fun _ _ h=>QV.snd h,trivial⟩,trivial⟩) bh
theorem _root_.Go.Proofs.YthmcngjhkmpneaaGreat.Sm {v u:Value}{q r:Rat}{i j:Nat}{w:World} (hx:bS w v q i) (hy:bS w u r j) (t:Int) (hk:i+j<=100000) (ht:pG q r=t):Calls Tryz.prog 188 #[v,u] w (fun e w'=>e = .returned (.int .i64 t)∧w.grownBy w' none):=by
 obtain ⟨z,y,hX,rfl⟩:=bS.qv hx
 obtain ⟨z',y',hY,rfl⟩:=bS.qv hy
 exact lm (Th hk ht) (vs:=[v,u]) ⟨cW rfl (fun _ _ _ g h=>QV.kp h g) hX,cW rfl (fun _ _ _ g h=>QV.kp h g) hY,trivial⟩ fun u w' hg _ f=>⟨congrArg _ (f _ (List.mem_singleton.2 rfl)),hg⟩
end
end Go.Proofs.YthmcngjhkmpneaaGreat.Sym
namespace Go.Proofs.YthmcngjhkmpneaaGreat
open Go.RowKit
theorem MQ {w:World}{X k cap n:Nat}{p:Option Addr}{z:Int}{c:Bool} (b:Bool) (h:bw w (.slice p n cap) X k) (hn:n=(af 10000 X).length) (hz:z=sg b X) (hc:c=(b && decide (0<n))):ae w (.agg #[.slice p n cap,.bool c]) z k:=by
 subst hn hz hc
 refine ⟨p,cap,?_,?_⟩
 ·rw [jl,cC,iw _ _ (by omega)]
 ·rw [cC];exact h
theorem ae.flag {w:World}{p:Option Addr}{n c k:Nat}{b:Bool}{z:Int} (h:ae w (.agg #[.slice p n c,.bool b]) z k):b=decide (z<0)∧n=(af 10000 z.natAbs).length:=by
 obtain ⟨p',c',e,-⟩:=h
 simp only [Value.agg.injEq,Array.mk.injEq,List.cons.injEq,Value.bool.injEq,Value.slice.injEq,and_true] at e
 exact ⟨e.2,e.1.2.1⟩
def Cel (w:World) (blk off:Nat) (x:Int):Prop:=w.cell? ⟨blk,off,none⟩=some (.int .i64 x)
theorem Cel.kp {w w':World}{blk off:Nat}{x:Int} (h:Cel w blk off x) (g:Kp w w'):Cel w' blk off x:=g.2 _ _ _ (by decide) h
theorem yE {X:Nat} (h:(af 10000 X).length=1):0<X∧X<10000:=by
 have h1:=fh (b:=10000) (by omega) X
 rw [h] at h1
 refine ⟨?_,by omega⟩
 rcases Nat.eq_zero_or_pos X with rfl | h2
 ·have:=(o6 (b:=10000) (by omega) (n:=0)).2 rfl;omega
 ·exact h2
theorem ae.one {w:World}{p:Option Addr}{c k:Nat}{b:Bool}{z:Int} (h:ae w (.agg #[.slice p 1 c,.bool b]) z k):∃blk off,p=some ⟨blk,off,none⟩∧Cel w blk off (z.natAbs:Nat):=by
 obtain ⟨-,hn⟩:=h.flag
 obtain ⟨p',c',e,h2⟩:=h
 simp only [Value.agg.injEq,Array.mk.injEq,List.cons.injEq,Value.bool.injEq,Value.slice.injEq,and_true] at e
 obtain ⟨⟨rfl,-,rfl⟩,-⟩:=e
 obtain ⟨q,c2,e2,-,-,h3⟩:=h2.1
 simp only [Value.slice.injEq,true_and] at e2
 obtain ⟨rfl,rfl⟩:=e2
 have hx:=yE hn.symm
 rcases h3 with h3 | ⟨blk,off,rfl,-,h3⟩
 ·rw [h3] at hn;cases hn
 ·refine ⟨blk,off,rfl,?_⟩
  have:=h3 0 (by omega)
  rw [qI (by omega) hx.1 hx.2] at this
  exact this
theorem rD (z:Int):(Rat.divInt z 1).num=z:=by rw [Rat.num_divInt];simp
theorem rE (z:Int):((Rat.divInt z 1).den:Int)=1:=by rw [Rat.den_divInt];simp
theorem nz {z y:Int} (h:0<y):bJ z y=(Int.gcd z y:Int):=by rw [bJ,if_neg (by omega)]
set_option maxHeartbeats 4000000 in
theorem MR {b b':Bool}{p q:Option Addr}{n m cap cap' X Y i j:Nat}{w:World} (hx:bw w (.slice p n cap) X i) (hy:bw w (.slice q m cap') Y j) (hi:i+j<=900000) (hY:0<Y) :
  Calls Tryz.prog 68 #[.agg #[.slice p n cap,.bool b],.agg #[.slice q m cap',.bool b']] w (ei w (sg (b != b') (X / Y)) i):=by
 have Hx:=Lib.hid hx
 have Hy:=Lib.hid hy
 have S0:Kept w [(w.heap.size+1,0,(.slice q m cap')),(w.heap.size+1,1,(.bool b')),(w.heap.size,0,(.slice p n cap)),(w.heap.size,1,(.bool b))] [w.heap.size+1+1] (((w.alloc (.cells #[.slice p n cap,.bool b] 42)).alloc (.cells #[.slice q m cap',.bool b'] 42)).alloc (.cells #[.slice none 0 0,.bool false] 42)):=(((Kept.start w).box _ _ _ _ rfl).box _ _ _ _ (by simp)).res _ _ _ _ _ (by simp)
 clear hx hy
 go_enter Tryz.func68,Tryz.ntmps68
 go_wp2_with fail
 refine (vm (Hx.out.grown (Kept.all _ _ S0)) (Hy.out.grown (Kept.all _ _ S0)) (by omega) hY).mono ?_
 rintro e w1 ⟨vq,vr,rfl,hq,hr,bq,br,hg⟩
 obtain ⟨pq,cq,rfl⟩:=hq.slice
 obtain ⟨pr,cr,rfl⟩:=hr.slice
 have Hq:=Lib.hid hq
 have Bq:=Lib.hid bq
 replace S0:=Kept.grown _ _ S0 hg
 have s2:=S0.lt (g:=w.heap.size+1+1) (by simp)
 clear hg hq hr bq br
 obtain ⟨l,hl⟩:∃l,(af 10000 (X / Y)).length=l:=⟨_,rfl⟩
 rw [hl] at Hq
 rw [hl]
 have Hl:=Lib.hid hl
 clear hl
 obtain ⟨c0,c1,c2,c3,r0,r1,f0,f1,G⟩:=id S0
 go_wp2_with fail
 refine (eU _ _ _ _ _).mono ?_
 rintro e w2 ⟨rfl,hg⟩
 replace S0:=Kept.grown _ _ S0 hg
 replace Hq:=Lib.hid (Hq.out.grown hg (.inl rfl))
 clear hg c0 c1 c2 c3 r0 r1 f0 f1 G
 obtain ⟨c0,c1,c2,c3,r0,r1,f0,f1,G⟩:=id S0
 go_wp2_with fail
 have G2:=Kept.all _ _ (Kept.set (g:=w.heap.size+1+1) (u:=.slice pq l cq) (v:=.bool ((b != b') && decide (0<l))) _ _ (by simp <;> omega) (by omega) S0)
 refine KZ Tryz.results68 rfl rfl (cM r0) (cN r1) (ei.mk (MQ (b != b') (X:=X / Y) ?_ Hl.out.symm rfl rfl) G2)
 exact ⟨(Hq.out.grown (ep _ _ _ _) (own_ne Hq.out (by first | omega | (simp <;> omega)))).sl,Bq.out⟩
set_option maxHeartbeats 4000000 in
theorem MS {v u:Value}{z y t:Int}{i j:Nat}{w:World} (hx:ae w v z i) (hy:ae w u y j) (hi:i+j<=900000) (h0:y≠0) (hd:y∣z) (ht:z / y=t) :
  Calls Tryz.prog 68 #[v,u] w (ei w t i):=by
 subst ht
 obtain ⟨b,p,n,cap,X,rfl,dx,rfl⟩:=hx.open
 obtain ⟨b',q,m,cap',Y,rfl,dy,rfl⟩:=hy.open
 have hY:Y≠0:=by rintro rfl;exact h0 (by cases b' <;> rfl)
 have hR:X % Y=0:=by
  have:=Int.natAbs_dvd_natAbs.2 hd
  rw [cC,cC] at this
  exact Nat.mod_eq_zero_of_dvd this
 rw [(Cf (b:=b) (b':=b') hY (.inr hR)).1]
 exact MR dx dy hi (Nat.pos_of_ne_zero hY)
end Go.Proofs.YthmcngjhkmpneaaGreat
namespace Go.Proofs.YthmcngjhkmpneaaGreat.Sym
open Go.RowKit
def b9 (y:Int) (i:Nat) (_:World) (v:Value):Prop:=v = .agg #[.int .i64 ((nth (af 10000 y.natAbs) i:Nat):Int)]
theorem ae.arr {w:World}{v:Value}{y:Int}{k n:Nat} (h:ae w v y k) (h0:y≠0) (hl:(af 10000 y.natAbs).length=n):Arr 1 (b9 y) n w (aN 0 1 v):=by
 subst hl
 obtain ⟨p,c,rfl,h2⟩:=h
 obtain ⟨q,c2,e2,-,-,h3⟩:=h2.1
 simp only [Value.slice.injEq,true_and] at e2
 obtain ⟨rfl,rfl⟩:=e2
 rcases h3 with h3 | ⟨b,off,rfl,-,h3⟩
 ·have:=(o6 (b:=10000) (by omega) (n:=y.natAbs)).1 (by rw [h3];rfl)
  omega
 ·refine ⟨_,_,rfl,fun i hi=>⟨b,off,rfl,[.int .i64 ((nth (af 10000 y.natAbs) i:Nat):Int)],rfl,fun j u hj=>?_,rfl⟩⟩
  have h4:=h3 i hi
  match j,hj with
  | 0,hj=>
   simp only [List.getElem?_cons_zero,Option.some.injEq] at hj
   subst hj
   rw [Nat.mul_one,Nat.add_zero]
   exact h4
theorem ae.isA {w:World}{v:Value}{y:Int}{k:Nat}{b:Bool} (h:ae w v y k) (hb:decide (y<0)=b):(aR.agg [.s,.lit (.cb b)]).is v:=by
 obtain ⟨p,c,rfl,-⟩:=h
 exact ⟨_,rfl,⟨_,_,_,rfl⟩,by rw [hb];rfl,trivial⟩
section
variable {P:Program}{Φ:PH}{X:Nat->Prop}{p q x x2 i j n:Nat}{z y t:Int}{w w':World}{e:Ending}
theorem MT {sh:aR}{u:Value}{G:WP}{w:World} (hs:sh.is u) (hx:Φ x=G) (h:∀w1,Off X w w1->G w1 u):bc Φ X w [⟨sh,[(0,0,x)]⟩] [u]:=⟨⟨hs,fun r hr w1 hw=>by
 simp only [List.mem_singleton] at hr;subst hr
 show Φ x w1 _;rw [hx];exact h w1 hw⟩,trivial⟩
theorem lp {T:TypeId} (hT:gg P T=some false) (hp:∀w v,Φ p w v->Ptr 1 (b9 y 0) w v) (hx:Φ x=Ni ((nth (af 10000 y.natAbs) 0:Nat):Int)):ai Φ P ⟨0,[.fact p],[oN x],.quiet (aS T)⟩:=fun X w ac o xs _ hm ha=>by
 unfold aS at hm
 split at hm
 case h_2=>cases hm
 rename_i t y ho
 split at hm
 case isFalse=>cases hm
 rename_i ht
 subst ht
 simp only [Option.some.injEq] at hm
 subst hm
 obtain ⟨b,off,hv,l,h1,h2,h3⟩:=hp _ _ (ha.1 w (Off.refl _ _))
 have h3:Value.agg l.toArray = .agg #[.int .i64 _]:=h3
 obtain rfl:l = [.int .i64 _]:=by simpa using h3
 have hc:=h2 0 _ rfl
 refine ⟨.int .i64 _,w,?_,aQ w none,MT ⟨⟨_,rfl⟩,fun _ h=>by cases h⟩ hx fun _ _=>rfl⟩
 rw [Nat.add_zero] at hc
 unfold execOp
 simp [ho,hv,Instr.loadAt,Instr.sureAddr,loadVar,gh hT,hc]
theorem yF (hx:Φ x=fun w v=>ae w v t i) (hx2:Φ x2=Arr 1 (b9 t) n) (h0:0<t) (hl:(af 10000 t.natAbs).length=n) (h:ei w t i e w'):post Φ X [⟨.agg [.s,.lit (.cb false)],[(0,0,x),(0,1,x2)]⟩] false w e w':=by
 obtain ⟨s,m,c,b,rfl,h1,h2⟩:=h
 obtain rfl:b=false:=h1.flag.1.trans (decide_eq_false (by omega))
 refine ⟨h2,[_],rfl,⟨⟨_,rfl,⟨_,_,_,rfl⟩,rfl,trivial⟩,fun q hq w1 hw=>?_⟩,trivial⟩
 have h':=ae.kp h1 hw.1
 simp only [List.mem_cons,List.not_mem_nil,or_false] at hq
 rcases hq with rfl | rfl
 ·show Φ x w1 _;rw [hx];exact h'
 ·show Φ x2 w1 _;rw [hx2];exact ae.arr h' (by omega) hl
theorem rF (hp:∀w v,Φ p w v->ae w v z i) (hx:Φ x=fun w v=>ae w v (-z) i) (hx2:Φ x2=Arr 1 (b9 (-z)) n) (h0:z<0) (hl:(af 10000 (-z).natAbs).length=n):ai Φ Tryz.prog ⟨92,[.fact p],[⟨.agg [.s,.lit (.cb false)],[(0,0,x),(0,1,x2)]⟩],false⟩:=
 da fun _ _ _ h1=>(vC (hp _ _ (get h1)) rfl).mono fun _ _ h=>yF hx hx2 (by omega) hl h
theorem MU (hx:Φ x=fun w v=>ae w v 1 2) (hx2:Φ x2=Arr 1 (b9 1) 1):ai Φ Tryz.prog ⟨64,[.lit (.ci .i64 1)],[⟨.agg [.s,.lit (.cb false)],[(0,0,x),(0,1,x2)]⟩],false⟩:=
 da fun _ _ v h1=>by
  obtain rfl:v = .int .i64 1:=h1
  exact (pX 1 (by decide) (by decide) rfl).mono fun _ _ h=>yF hx hx2 (by decide) (by decide +kernel) h
theorem fW (hp:∀w v,Φ p w v->ae w v z i) (hq:∀w v,Φ q w v->ae w v y j) (hx:Φ x=fun w v=>ae w v t i) (hi:i+j<=900000) (h0':y≠0) (h1':y∣z) (ht:z / y=t):ai Φ Tryz.prog ⟨68,[.fact p,.fact q],[⟨dS,[(0,0,x)]⟩],false⟩:=
 dj fun _ _ _ _ h0 h1=>(MS (hp _ _ (get h0)) (hq _ _ (get h1)) hi h0' h1' ht).mono fun _ _ h=>gU hx h
theorem rG {b:Bool}{p1 p2:Nat} (h:∀w v,sS.is v->Φ p1 w (aN 0 2 v)->Φ p2 w (aN 2 2 v)->Φ x w v) (X:Nat->Prop) (w:World) (v:Value) (hv:(aR.agg [.s,.b,.s,.lit (.cb b)]).is v∧∀q,q ∈ [(0,2,p1),(2,2,p2)]->∀w1,Off X w w1->Φ q.2.2 w1 (aN q.1 q.2.1 v)):sS.is v∧∀q,q ∈ [(0,0,x)]->∀w1,Off X w w1->Φ q.2.2 w1 (aN q.1 q.2.1 v):=by
 have hs:sS.is v:=by
  obtain ⟨vs,rfl,h⟩:=hv.1
  match vs,h with
  | [v0,v1,v2,v3],h=>
   obtain ⟨h0,h1,h2,h3,_⟩:=h
   exact ⟨_,rfl,h0,h1,h2,⟨_,h3⟩,trivial⟩
 exact ⟨hs,fun q hq w1 hw=>by
  simp only [List.mem_singleton] at hq
  subst hq
  exact h w1 _ hs (hv.2 (0,2,p1) (by simp) w1 hw) (hv.2 (2,2,p2) (by simp) w1 hw)⟩
theorem MV {m:Nat} (hl:(af 10000 m).length=1):nth (af 10000 m) 0=m:=by
 have h:=yE hl
 rw [qI (by omega) h.1 h.2];rfl
theorem yG (h0:y=0):aD z y=Rat.divInt z 1:=by rw [aD,if_pos h0]
theorem xV (h0:y<0):aD z y=Rat.divInt (-z) (-y):=by rw [gR (by omega),Rat.neg_divInt_neg]
theorem MW (h0:y=0):z=(aD z y).num:=by rw [yG h0,rD]
theorem MZ (h0:y=0):(1:Int)=((aD z y).den:Int):=by rw [yG h0,rE]
theorem xW (h0:0<y) (hl:(af 10000 y.natAbs).length=1) (hd:nth (af 10000 y.natAbs) 0=1):y=1:=by
 rw [MV hl] at hd;omega
theorem M0 (h0:0<y) (hl:(af 10000 y.natAbs).length=1) (hd:nth (af 10000 y.natAbs) 0=1):z=(aD z y).num:=by
 rw [xW h0 hl hd,gR (by decide),rD]
theorem M3 (h0:0<y) (hl:(af 10000 y.natAbs).length=1) (hd:nth (af 10000 y.natAbs) 0=1):y=((aD z y).den:Int):=by
 rw [xW h0 hl hd,gR (by decide),rE]
theorem M5 (h0:y<0) (hl:(af 10000 (-y).natAbs).length=1) (hd:nth (af 10000 (-y).natAbs) 0=1) : -z=(aD z y).num:=by
 rw [xV h0,xW (by omega) hl hd,rD]
theorem M6 (h0:y<0) (hl:(af 10000 (-y).natAbs).length=1) (hd:nth (af 10000 (-y).natAbs) 0=1) : -y=((aD z y).den:Int):=by
 rw [xV h0,xW (by omega) hl hd,rE]
theorem yH (h0:0<y):z / bJ z y=(aD z y).num:=by rw [gR (by omega)];exact ld (by omega)
theorem yI (h0:0<y):y / bJ z y=((aD z y).den:Int):=by rw [gR (by omega)];exact lf (by omega)
theorem yJ (h0:y<0) : -z / bJ (-z) (-y)=(aD z y).num:=by rw [xV h0];exact ld (by omega)
theorem yK (h0:y<0) : -y / bJ (-z) (-y)=((aD z y).den:Int):=by rw [xV h0];exact lf (by omega)
def M7 (z y:Int) (t:Rat) (i j:Nat):List WP:=[fun w v=>ae w v z i,fun w v=>ae w v y j,fun w v=>ae w v 1 2,Arr 1 (b9 (1:Int)) 1,Ptr 1 ((b9 (1:Int)) 0),Ni ((nth (af 10000 (1:Int).natAbs) 0:Nat):Int),Dw t (i+j+2)]
def M8:List Out:=[oD 0,oD 1]
def M9:List Site:=[⟨100,[.fact 1],oT,false⟩,
   ⟨64,[.lit (.ci .i64 1)],[⟨.agg [.s,.lit (.cb false)],[(0,0,2),(0,1,3)]⟩],false⟩,
   ⟨0,[.fact 3],[oL (.ci .i64 1)],.quiet (aI 40)⟩,
   ⟨0,[.fact 3,.lit (.ci .i64 0)],[oP 4],.quiet (aO 40)⟩,
   ⟨0,[.fact 4],[oN 5],.quiet (aS 3)⟩,
   ⟨0,[.fact 5,.lit (.ci .i64 1)],oT,.quiet (au .eql)⟩]
theorem Nc {z y:Int}{t:Rat}{i j:Nat} (_hk:i+j<=200000) (h0:y=0) (ht:aD z y=t):ai (ph (M7 z y t i j)) Tryz.prog ⟨62,[.fact 0,.fact 1],[⟨sS,[(0,0,6)]⟩],false⟩:=by
 skip
 exact c5 M8 [⟨.agg [.s,.b,.s,.lit (.cb false)],[(0,2,0),(2,2,2)]⟩] M9 Tryz.func62 (by kernel_rfl)
  (all_cons (fP dD (decide_eq_true h0))
   (all_cons (MU rfl rfl)
   (all_cons (lu (n:=1) (sz:=1) (F:=(b9 (1:Int))) rfl Tryz.underlying40 ad)
   (all_cons (lw (n:=1) (sz:=1) 0 (F:=(b9 (1:Int))) Tryz.underlying40 (by kernel_rfl) ad rfl (by decide) rfl)
   (all_cons (lp (by kernel_rfl) ad rfl)
   (all_cons (cn (op:=.eql) ad (fun t w=>by rw [<- show decide (((nth (af 10000 (1:Int).natAbs) 0:Nat):Int)=1)=true from (by decide +kernel)];rfl))
   all_nil))))))
  (aK [.fact 0 (.agg [.s,.b]),.fact 1 (.agg [.s,.b])] ⟨fun _ _ h=>ae.is h,fun _ _ h=>ae.is h,trivial⟩) (dR (rG fun _ _ hs h1 h2=>ah.join hs (ae.more (ae.dP h1 (by rw [<- ht];exact MW h0)) (by omega)) (ae.more (ae.dP h2 (by rw [<- ht];exact MZ h0)) (by omega))))
def Nd (z y:Int) (t:Rat) (i j:Nat):List WP:=[fun w v=>ae w v z i,fun w v=>ae w v y j,Arr 1 (b9 y) 1,Ptr 1 ((b9 y) 0),Ni ((nth (af 10000 y.natAbs) 0:Nat):Int),Dw t (i+j+2)]
def Ng:List Out:=[oD 0,⟨.agg [.s,.lit (.cb false)],[(0,0,1),(0,1,2)]⟩]
def Nh:List Site:=[⟨100,[.fact 1],oF,false⟩,
   ⟨0,[.fact 2],[oL (.ci .i64 1)],.quiet (aI 40)⟩,
   ⟨0,[.fact 2,.lit (.ci .i64 0)],[oP 3],.quiet (aO 40)⟩,
   ⟨0,[.fact 3],[oN 4],.quiet (aS 3)⟩,
   ⟨0,[.fact 4,.lit (.ci .i64 1)],oT,.quiet (au .eql)⟩]
theorem Nj {z y:Int}{t:Rat}{i j:Nat} (_hk:i+j<=200000) (h0:0<y) (ht:aD z y=t) (hl:(af 10000 y.natAbs).length=1) (hd:nth (af 10000 y.natAbs) 0=1):ai (ph (Nd z y t i j)) Tryz.prog ⟨62,[.fact 0,.fact 1],[⟨sS,[(0,0,5)]⟩],false⟩:=by
 have hp:0<y:=h0
 exact c5 Ng [⟨.agg [.s,.b,.s,.lit (.cb false)],[(0,2,0),(2,2,1)]⟩] Nh Tryz.func62 (by kernel_rfl)
  (all_cons (fP dD (decide_eq_false (by omega)))
   (all_cons (lu (n:=1) (sz:=1) (F:=(b9 y)) rfl Tryz.underlying40 ad)
   (all_cons (lw (n:=1) (sz:=1) 0 (F:=(b9 y)) Tryz.underlying40 (by kernel_rfl) ad rfl (by decide) rfl)
   (all_cons (lp (by kernel_rfl) ad rfl)
   (all_cons (cn (op:=.eql) ad (fun t w=>by rw [<- show decide (((nth (af 10000 y.natAbs) 0:Nat):Int)=1)=true from decide_eq_true (by rw [hd];rfl)];rfl))
   all_nil)))))
  (aK [.fact 0 (.agg [.s,.b]),.sub 1 (.agg [.s,.lit (.cb false)]) [(0,1,2)]] ⟨fun _ _ h=>ae.is h,⟨fun _ _ h=>ae.isA h (decide_eq_false (by omega)),fun _ _ h=>ae.arr h (by omega) hl,trivial⟩,trivial⟩) (dR (rG fun _ _ hs h1 h2=>ah.join hs (ae.more (ae.dP h1 (by rw [<- ht];exact M0 h0 hl hd)) (by omega)) (ae.more (ae.dP h2 (by rw [<- ht];exact M3 h0 hl hd)) (by omega))))
def Nk (z y:Int) (t:Rat) (i j:Nat):List WP:=[fun w v=>ae w v z i,fun w v=>ae w v y j,Arr 1 (b9 y) 1,Ptr 1 ((b9 y) 0),Ni ((nth (af 10000 y.natAbs) 0:Nat):Int),fun w v=>ae w v (bJ z y) (i+j),fun w v=>ae w v (z / (bJ z y)) i,fun w v=>ae w v (y / (bJ z y)) j,Dw t (i+j+2)]
def Nl:List Out:=[oD 0,⟨.agg [.s,.lit (.cb false)],[(0,0,1),(0,1,2)]⟩]
def Nm:List Site:=[⟨100,[.fact 1],oF,false⟩,
   ⟨0,[.fact 2],[oL (.ci .i64 1)],.quiet (aI 40)⟩,
   ⟨0,[.fact 2,.lit (.ci .i64 0)],[oP 3],.quiet (aO 40)⟩,
   ⟨0,[.fact 3],[oN 4],.quiet (aS 3)⟩,
   ⟨0,[.fact 4,.lit (.ci .i64 1)],oF,.quiet (au .eql)⟩,
   ⟨70,[.fact 0,.fact 1],[oD 5],false⟩,
   ⟨68,[.fact 0,.fact 5],[oD 6],false⟩,
   ⟨68,[.fact 1,.fact 5],[oD 7],false⟩]
theorem Nn {z y:Int}{t:Rat}{i j:Nat} (hk:i+j<=200000) (h0:0<y) (ht:aD z y=t) (hl:(af 10000 y.natAbs).length=1) (h1:nth (af 10000 y.natAbs) 0≠1):ai (ph (Nk z y t i j)) Tryz.prog ⟨62,[.fact 0,.fact 1],[⟨sS,[(0,0,8)]⟩],false⟩:=by
 have hp:0<y:=h0
 exact c5 Nl [⟨.agg [.s,.b,.s,.b],[(0,2,6),(2,2,7)]⟩] Nm Tryz.func62 (by kernel_rfl)
  (all_cons (fP dD (decide_eq_false (by omega)))
   (all_cons (lu (n:=1) (sz:=1) (F:=(b9 y)) rfl Tryz.underlying40 ad)
   (all_cons (lw (n:=1) (sz:=1) 0 (F:=(b9 y)) Tryz.underlying40 (by kernel_rfl) ad rfl (by decide) rfl)
   (all_cons (lp (by kernel_rfl) ad rfl)
   (all_cons (cn (op:=.eql) ad (fun t w=>by rw [<- show decide (((nth (af 10000 y.natAbs) 0:Nat):Int)=1)=false from decide_eq_false (by omega)];rfl))
   (all_cons (kA (i+j) dD dD rfl (by omega) (by omega) (by omega) (nz hp).symm)
   (all_cons (fW dD dD rfl (by omega) (eS (by omega)) (tG _ _) rfl)
   (all_cons (fW dD dD rfl (by omega) (eS (by omega)) (tI _ _) rfl)
   all_nil))))))))
  (aK [.fact 0 (.agg [.s,.b]),.sub 1 (.agg [.s,.lit (.cb false)]) [(0,1,2)]] ⟨fun _ _ h=>ae.is h,⟨fun _ _ h=>ae.isA h (decide_eq_false (by omega)),fun _ _ h=>ae.arr h (by omega) hl,trivial⟩,trivial⟩) (dR (halves fun _ _ hs h1 h2=>ah.join hs (ae.more (ae.dP h1 (by rw [<- ht];exact yH h0)) (by omega)) (ae.more (ae.dP h2 (by rw [<- ht];exact yI h0)) (by omega))))
def No (z y:Int) (t:Rat) (i j n:Nat):List WP:=[fun w v=>ae w v z i,fun w v=>ae w v y j,Arr 1 (b9 y) n,Nz n,fun w v=>ae w v (bJ z y) (i+j),fun w v=>ae w v (z / (bJ z y)) i,fun w v=>ae w v (y / (bJ z y)) j,Dw t (i+j+2)]
def Np:List Out:=[oD 0,⟨.agg [.s,.lit (.cb false)],[(0,0,1),(0,1,2)]⟩]
def Ns:List Site:=[⟨100,[.fact 1],oF,false⟩,
   ⟨0,[.fact 2],[oN 3],.quiet (aI 40)⟩,
   ⟨0,[.fact 3,.lit (.ci .i64 1)],oF,.quiet (au .eql)⟩,
   ⟨70,[.fact 0,.fact 1],[oD 4],false⟩,
   ⟨68,[.fact 0,.fact 4],[oD 5],false⟩,
   ⟨68,[.fact 1,.fact 4],[oD 6],false⟩]
theorem Nt {z y:Int}{t:Rat}{i j n:Nat} (hk:i+j<=200000) (h0:0<y) (ht:aD z y=t) (hl:(af 10000 y.natAbs).length=n) (hl1:n≠1)  : ai (ph (No z y t i j n)) Tryz.prog ⟨62,[.fact 0,.fact 1],[⟨sS,[(0,0,7)]⟩],false⟩:=by
 have hp:0<y:=h0
 exact c5 Np [⟨.agg [.s,.b,.s,.b],[(0,2,5),(2,2,6)]⟩] Ns Tryz.func62 (by kernel_rfl)
  (all_cons (fP dD (decide_eq_false (by omega)))
   (all_cons (kE (sz:=1) (n:=n) (F:=(b9 y)) Tryz.underlying40 ad rfl)
   (all_cons (cn (op:=.eql) ad (fun t w=>by rw [<- show decide (((n:Nat):Int)=1)=false from decide_eq_false (by omega)];rfl))
   (all_cons (kA (i+j) dD dD rfl (by omega) (by omega) (by omega) (nz hp).symm)
   (all_cons (fW dD dD rfl (by omega) (eS (by omega)) (tG _ _) rfl)
   (all_cons (fW dD dD rfl (by omega) (eS (by omega)) (tI _ _) rfl)
   all_nil))))))
  (aK [.fact 0 (.agg [.s,.b]),.sub 1 (.agg [.s,.lit (.cb false)]) [(0,1,2)]] ⟨fun _ _ h=>ae.is h,⟨fun _ _ h=>ae.isA h (decide_eq_false (by omega)),fun _ _ h=>ae.arr h (by omega) hl,trivial⟩,trivial⟩) (dR (halves fun _ _ hs h1 h2=>ah.join hs (ae.more (ae.dP h1 (by rw [<- ht];exact yH h0)) (by omega)) (ae.more (ae.dP h2 (by rw [<- ht];exact yI h0)) (by omega))))
def Nv (z y:Int) (t:Rat) (i j:Nat):List WP:=[fun w v=>ae w v z i,fun w v=>ae w v y j,fun w v=>ae w v (-z) i,fun w v=>ae w v (-y) j,Arr 1 (b9 (-y)) 1,Ptr 1 ((b9 (-y)) 0),Ni ((nth (af 10000 (-y).natAbs) 0:Nat):Int),Dw t (i+j+2)]
def Nx:List Out:=[oD 0,⟨.agg [.s,.lit (.cb true)],[(0,0,1)]⟩]
def Ny:List Site:=[⟨100,[.fact 1],oF,false⟩,
   ⟨92,[.fact 0],[oD 2],false⟩,
   ⟨92,[.fact 1],[⟨.agg [.s,.lit (.cb false)],[(0,0,3),(0,1,4)]⟩],false⟩,
   ⟨0,[.fact 4],[oL (.ci .i64 1)],.quiet (aI 40)⟩,
   ⟨0,[.fact 4,.lit (.ci .i64 0)],[oP 5],.quiet (aO 40)⟩,
   ⟨0,[.fact 5],[oN 6],.quiet (aS 3)⟩,
   ⟨0,[.fact 6,.lit (.ci .i64 1)],oT,.quiet (au .eql)⟩]
theorem NA {z y:Int}{t:Rat}{i j:Nat} (_hk:i+j<=200000) (h0:y<0) (ht:aD z y=t) (hl:(af 10000 (-y).natAbs).length=1) (hd:nth (af 10000 (-y).natAbs) 0=1):ai (ph (Nv z y t i j)) Tryz.prog ⟨62,[.fact 0,.fact 1],[⟨sS,[(0,0,7)]⟩],false⟩:=by
 have hp:0 < -y:=by omega
 exact c5 Nx [⟨.agg [.s,.b,.s,.lit (.cb false)],[(0,2,2),(2,2,3)]⟩] Ny Tryz.func62 (by kernel_rfl)
  (all_cons (fP dD (decide_eq_false (by omega)))
   (all_cons (nC dD rfl rfl)
   (all_cons (rF dD rfl rfl h0 hl)
   (all_cons (lu (n:=1) (sz:=1) (F:=(b9 (-y))) rfl Tryz.underlying40 ad)
   (all_cons (lw (n:=1) (sz:=1) 0 (F:=(b9 (-y))) Tryz.underlying40 (by kernel_rfl) ad rfl (by decide) rfl)
   (all_cons (lp (by kernel_rfl) ad rfl)
   (all_cons (cn (op:=.eql) ad (fun t w=>by rw [<- show decide (((nth (af 10000 (-y).natAbs) 0:Nat):Int)=1)=true from decide_eq_true (by rw [hd];rfl)];rfl))
   all_nil)))))))
  (aK [.fact 0 (.agg [.s,.b]),.fact 1 (.agg [.s,.lit (.cb true)])] ⟨fun _ _ h=>ae.is h,fun _ _ h=>ae.isA h (decide_eq_true (by omega)),trivial⟩) (dR (rG fun _ _ hs h1 h2=>ah.join hs (ae.more (ae.dP h1 (by rw [<- ht];exact M5 h0 hl hd)) (by omega)) (ae.more (ae.dP h2 (by rw [<- ht];exact M6 h0 hl hd)) (by omega))))
def NB (z y:Int) (t:Rat) (i j:Nat):List WP:=[fun w v=>ae w v z i,fun w v=>ae w v y j,fun w v=>ae w v (-z) i,fun w v=>ae w v (-y) j,Arr 1 (b9 (-y)) 1,Ptr 1 ((b9 (-y)) 0),Ni ((nth (af 10000 (-y).natAbs) 0:Nat):Int),fun w v=>ae w v (bJ (-z) (-y)) (i+j),fun w v=>ae w v ((-z) / (bJ (-z) (-y))) i,fun w v=>ae w v ((-y) / (bJ (-z) (-y))) j,Dw t (i+j+2)]
def NC:List Out:=[oD 0,⟨.agg [.s,.lit (.cb true)],[(0,0,1)]⟩]
def ND:List Site:=[⟨100,[.fact 1],oF,false⟩,
   ⟨92,[.fact 0],[oD 2],false⟩,
   ⟨92,[.fact 1],[⟨.agg [.s,.lit (.cb false)],[(0,0,3),(0,1,4)]⟩],false⟩,
   ⟨0,[.fact 4],[oL (.ci .i64 1)],.quiet (aI 40)⟩,
   ⟨0,[.fact 4,.lit (.ci .i64 0)],[oP 5],.quiet (aO 40)⟩,
   ⟨0,[.fact 5],[oN 6],.quiet (aS 3)⟩,
   ⟨0,[.fact 6,.lit (.ci .i64 1)],oF,.quiet (au .eql)⟩,
   ⟨70,[.fact 2,.fact 3],[oD 7],false⟩,
   ⟨68,[.fact 2,.fact 7],[oD 8],false⟩,
   ⟨68,[.fact 3,.fact 7],[oD 9],false⟩]
theorem NE {z y:Int}{t:Rat}{i j:Nat} (hk:i+j<=200000) (h0:y<0) (ht:aD z y=t) (hl:(af 10000 (-y).natAbs).length=1) (h1:nth (af 10000 (-y).natAbs) 0≠1):ai (ph (NB z y t i j)) Tryz.prog ⟨62,[.fact 0,.fact 1],[⟨sS,[(0,0,10)]⟩],false⟩:=by
 have hp:0 < -y:=by omega
 exact c5 NC [⟨.agg [.s,.b,.s,.b],[(0,2,8),(2,2,9)]⟩] ND Tryz.func62 (by kernel_rfl)
  (all_cons (fP dD (decide_eq_false (by omega)))
   (all_cons (nC dD rfl rfl)
   (all_cons (rF dD rfl rfl h0 hl)
   (all_cons (lu (n:=1) (sz:=1) (F:=(b9 (-y))) rfl Tryz.underlying40 ad)
   (all_cons (lw (n:=1) (sz:=1) 0 (F:=(b9 (-y))) Tryz.underlying40 (by kernel_rfl) ad rfl (by decide) rfl)
   (all_cons (lp (by kernel_rfl) ad rfl)
   (all_cons (cn (op:=.eql) ad (fun t w=>by rw [<- show decide (((nth (af 10000 (-y).natAbs) 0:Nat):Int)=1)=false from decide_eq_false (by omega)];rfl))
   (all_cons (kA (i+j) dD dD rfl (by omega) (by omega) (by omega) (nz hp).symm)
   (all_cons (fW dD dD rfl (by omega) (eS (by omega)) (tG _ _) rfl)
   (all_cons (fW dD dD rfl (by omega) (eS (by omega)) (tI _ _) rfl)
   all_nil))))))))))
  (aK [.fact 0 (.agg [.s,.b]),.fact 1 (.agg [.s,.lit (.cb true)])] ⟨fun _ _ h=>ae.is h,fun _ _ h=>ae.isA h (decide_eq_true (by omega)),trivial⟩) (dR (halves fun _ _ hs h1 h2=>ah.join hs (ae.more (ae.dP h1 (by rw [<- ht];exact yJ h0)) (by omega)) (ae.more (ae.dP h2 (by rw [<- ht];exact yK h0)) (by omega))))
def NG (z y:Int) (t:Rat) (i j n:Nat):List WP:=[fun w v=>ae w v z i,fun w v=>ae w v y j,fun w v=>ae w v (-z) i,fun w v=>ae w v (-y) j,Arr 1 (b9 (-y)) n,Nz n,fun w v=>ae w v (bJ (-z) (-y)) (i+j),fun w v=>ae w v ((-z) / (bJ (-z) (-y))) i,fun w v=>ae w v ((-y) / (bJ (-z) (-y))) j,Dw t (i+j+2)]
def NH:List Out:=[oD 0,⟨.agg [.s,.lit (.cb true)],[(0,0,1)]⟩]
def NI:List Site:=[⟨100,[.fact 1],oF,false⟩,
   ⟨92,[.fact 0],[oD 2],false⟩,
   ⟨92,[.fact 1],[⟨.agg [.s,.lit (.cb false)],[(0,0,3),(0,1,4)]⟩],false⟩,
   ⟨0,[.fact 4],[oN 5],.quiet (aI 40)⟩,
   ⟨0,[.fact 5,.lit (.ci .i64 1)],oF,.quiet (au .eql)⟩,
   ⟨70,[.fact 2,.fact 3],[oD 6],false⟩,
   ⟨68,[.fact 2,.fact 6],[oD 7],false⟩,
   ⟨68,[.fact 3,.fact 6],[oD 8],false⟩]
theorem NJ {z y:Int}{t:Rat}{i j n:Nat} (hk:i+j<=200000) (h0:y<0) (ht:aD z y=t) (hl:(af 10000 (-y).natAbs).length=n) (hl1:n≠1)  : ai (ph (NG z y t i j n)) Tryz.prog ⟨62,[.fact 0,.fact 1],[⟨sS,[(0,0,9)]⟩],false⟩:=by
 have hp:0 < -y:=by omega
 exact c5 NH [⟨.agg [.s,.b,.s,.b],[(0,2,7),(2,2,8)]⟩] NI Tryz.func62 (by kernel_rfl)
  (all_cons (fP dD (decide_eq_false (by omega)))
   (all_cons (nC dD rfl rfl)
   (all_cons (rF dD rfl rfl h0 hl)
   (all_cons (kE (sz:=1) (n:=n) (F:=(b9 (-y))) Tryz.underlying40 ad rfl)
   (all_cons (cn (op:=.eql) ad (fun t w=>by rw [<- show decide (((n:Nat):Int)=1)=false from decide_eq_false (by omega)];rfl))
   (all_cons (kA (i+j) dD dD rfl (by omega) (by omega) (by omega) (nz hp).symm)
   (all_cons (fW dD dD rfl (by omega) (eS (by omega)) (tG _ _) rfl)
   (all_cons (fW dD dD rfl (by omega) (eS (by omega)) (tI _ _) rfl)
   all_nil))))))))
  (aK [.fact 0 (.agg [.s,.b]),.fact 1 (.agg [.s,.lit (.cb true)])] ⟨fun _ _ h=>ae.is h,fun _ _ h=>ae.isA h (decide_eq_true (by omega)),trivial⟩) (dR (halves fun _ _ hs h1 h2=>ah.join hs (ae.more (ae.dP h1 (by rw [<- ht];exact yJ h0)) (by omega)) (ae.more (ae.dP h2 (by rw [<- ht];exact yK h0)) (by omega))))
end
end Go.Proofs.YthmcngjhkmpneaaGreat.Sym
namespace Go.Proofs.YthmcngjhkmpneaaGreat
theorem Sym.iK {Φ:PH}{v u:Value}{z y:Int}{i j:Nat}{w:World} (h0:Φ 0=fun w v=>ae w v z i) (h1:Φ 1=fun w v=>ae w v y j) (hx:ae w v z i) (hy:ae w u y j):Sym.bF Φ (fun _=>False) w [.fact 0,.fact 1] [v,u]:=
 ⟨Sym.cW h0 (fun _ _ _ g h=>ae.kp h g) hx,Sym.cW h1 (fun _ _ _ g h=>ae.kp h g) hy,trivial⟩
theorem NK {v u:Value}{z y:Int}{t:Rat}{i j:Nat}{w:World} (hx:ae w v z i) (hy:ae w u y j) (hk:i+j<=200000) (ht:aD z y=t):Calls Tryz.prog 62 #[v,u] w (fo w t (i+j+2)):=by
 rcases Int.lt_trichotomy y 0 with h | h | h
 ·by_cases hl:(af 10000 (-y).natAbs).length=1
  ·by_cases hd:nth (af 10000 (-y).natAbs) 0=1
   ·exact Sym.eV (Sym.NA hk h ht hl hd) rfl (vs:=[v,u]) (Sym.iK rfl rfl hx hy)
   ·exact Sym.eV (Sym.NE hk h ht hl hd) rfl (vs:=[v,u]) (Sym.iK rfl rfl hx hy)
  ·exact Sym.eV (Sym.NJ hk h ht rfl hl) rfl (vs:=[v,u]) (Sym.iK rfl rfl hx hy)
 ·exact Sym.eV (Sym.Nc hk h ht) rfl (vs:=[v,u]) (Sym.iK rfl rfl hx hy)
 ·by_cases hl:(af 10000 y.natAbs).length=1
  ·by_cases hd:nth (af 10000 y.natAbs) 0=1
   ·exact Sym.eV (Sym.Nj hk h ht hl hd) rfl (vs:=[v,u]) (Sym.iK rfl rfl hx hy)
   ·exact Sym.eV (Sym.Nn hk h ht hl hd) rfl (vs:=[v,u]) (Sym.iK rfl rfl hx hy)
  ·exact Sym.eV (Sym.Nt hk h ht rfl hl) rfl (vs:=[v,u]) (Sym.iK rfl rfl hx hy)
end Go.Proofs.YthmcngjhkmpneaaGreat
namespace Go.Proofs.YthmcngjhkmpneaaGreat.Sym
open Go.RowKit
section
variable {Φ:PH}
theorem oX (q:Rat):(q.den:Int)≠0:=by have:=q.den_nz;omega
theorem _root_.Go.Proofs.YthmcngjhkmpneaaGreat.jC (q:Rat):(q.den:Int)≠0:=oX q
theorem _root_.Go.Proofs.YthmcngjhkmpneaaGreat.den_pos (q:Rat):0<(q.den:Int):=by have:=q.den_nz;omega
theorem _root_.Go.Proofs.YthmcngjhkmpneaaGreat.NM (q r:Rat):aD (q.num*r.den+r.num*q.den) (q.den*r.den)=q+r:=by
 rw [gR (Int.mul_ne_zero (jC q) (jC r)),<- Rat.divInt_add_divInt _ _ (jC q) (jC r),Rat.num_divInt_den,Rat.num_divInt_den]
theorem _root_.Go.Proofs.YthmcngjhkmpneaaGreat.NN (q r:Rat):aD (q.num*r.num) (q.den*r.den)=q*r:=by
 rw [gR (Int.mul_ne_zero (jC q) (jC r)),<- Rat.divInt_mul_divInt,Rat.num_divInt_den,Rat.num_divInt_den]
theorem jg {p q x x1 x2 i j:Nat}{z:Int}{y:Int}{t:Rat} (hp:∀w v,Φ p w v->ae w v z i) (hq:∀w v,Φ q w v->ae w v y j) (hx:Φ x=Dw t (i+j+2)) (hx1:Φ x1=fun w v=>ae w v t.num (i+j+2)) (hx2:Φ x2=fun w v=>ae w v (t.den:Int) (i+j+2)) (hk:i+j<=200000) (ht:aD z y=t):ai Φ Tryz.prog ⟨62,[.fact p,.fact q],[⟨sS,[(0,0,x),(0,2,x1),(2,2,x2)]⟩],false⟩:=
 dj fun _ _ _ _ h0 h1=>(NK (hp _ _ (get h0)) (hq _ _ (get h1)) hk ht).mono fun _ _ h=>iF hx hx1 hx2 h
theorem yL {p x:Nat}{t z:Int} (hp:∀w v,Φ p w v->v = .int .i64 z) (hx:Φ x=fun w v=>ae w v t 2) (h1 : -9223372036854775808<=z) (h2:z<=9223372036854775807) (ht:z=t):ai Φ Tryz.prog ⟨64,[.fact p],[⟨dS,[(0,0,x)]⟩],false⟩:=
 da fun _ w v h0=>by
  obtain rfl:=hp _ _ (get h0)
  exact (pX z h1 h2 ht).mono fun _ _ h=>gU hx h
def NT (x y:Int) (t:Rat):List WP:=[Ni x,Ni y,fun w v=>ae w v x 2,fun w v=>ae w v y 2,Dw t (2+2+2),fun w v=>ae w v t.num (2+2+2),fun w v=>ae w v (t.den:Int) (2+2+2)]
def NU:List Out:=[oN 0,oN 1]
def NV:List Site:=[⟨64,[.fact 0],[oD 2],false⟩,
   ⟨64,[.fact 1],[oD 3],false⟩,
   ⟨62,[.fact 2,.fact 3],[⟨.agg [.s,.b,.s,.b],[(0,0,4),(0,2,5),(2,2,6)]⟩],false⟩]
theorem ofr {x y:Int}{t:Rat} (x1 : -9223372036854775808<=x) (x2:x<=9223372036854775807) (y1 : -9223372036854775808<=y) (y2:y<=9223372036854775807) (ht:aD x y=t):ai (ph (NT x y t)) Tryz.prog ⟨38,[.fact 0,.fact 1],[oQ 4],false⟩:=
 c5 NU [oQ 4] NV Tryz.func38 (by kernel_rfl)
  (all_cons (yL ad rfl x1 x2 rfl)
   (all_cons (yL ad rfl y1 y2 rfl)
   (all_cons (jg dD dD rfl rfl rfl (by omega) ht)
   all_nil)))
  (aK [.fact 0 (.one (.i)),.fact 1 (.one (.i))] ⟨fun _ _ h=>⟨⟨_,h⟩,fun _ e=>by rw [h] at e;cases e⟩,fun _ _ h=>⟨⟨_,h⟩,fun _ e=>by rw [h] at e;cases e⟩,trivial⟩) bh
theorem _root_.Go.Proofs.YthmcngjhkmpneaaGreat.xL (x y:Int){t:Rat}{w:World} (x1 : -9223372036854775808<=x) (x2:x<=9223372036854775807) (y1 : -9223372036854775808<=y) (y2:y<=9223372036854775807) (ht:aD x y=t):Calls Tryz.prog 38 #[.int .i64 x,.int .i64 y] w (fo w t 6):=by
 exact eV (ofr x1 x2 y1 y2 ht) rfl (vs:=[.int .i64 x,.int .i64 y]) ⟨fun _ _=>rfl,fun _ _=>rfl,trivial⟩
theorem pf {x x1 x2:Nat}{z y:Int}{t:Rat} (hx:Φ x=Dw t 6) (hx1:Φ x1=fun w v=>ae w v t.num 6) (hx2:Φ x2=fun w v=>ae w v (t.den:Int) 6) (z1 : -9223372036854775808<=z) (z2:z<=9223372036854775807) (y1 : -9223372036854775808<=y) (y2:y<=9223372036854775807) (ht:aD z y=t):ai Φ Tryz.prog ⟨38,[.lit (.ci .i64 z),.lit (.ci .i64 y)],[⟨sS,[(0,0,x),(0,2,x1),(2,2,x2)]⟩],false⟩:=
 dj fun _ w v u h0 h1=>by
  obtain rfl:v = .int .i64 z:=h0
  obtain rfl:u = .int .i64 y:=h1
  exact (xL z y z1 z2 y1 y2 ht).mono fun _ _ h=>iF hx hx1 hx2 h
def NW (q:Rat) (i:Nat):List WP:=[Dw q i,fun w v=>ae w v q.num i,fun w v=>ae w v (q.den:Int) i,Nw q.num i,Nw (q.den:Int) i,fun w v=>bk w v q i]
def NX:List Out:=[⟨.agg [.s,.b,.s,.b],[(0,0,0),(0,2,1),(2,2,2)]⟩]
def NY:List Site:=[⟨54,[.fact 1],[oI 3],false⟩,
   ⟨54,[.fact 2],[oI 4],false⟩]
theorem NZ {q:Rat}{i:Nat} (hk:i<=200000):ai (ph (NW q i)) Tryz.prog ⟨35,[.fact 0],[⟨qS,[(0,0,5)]⟩],false⟩:=
 c5 NX [⟨.agg [.b,.s,.b,.s],[(0,2,3),(2,2,4)]⟩] NY Tryz.func35 (by kernel_rfl)
  (all_cons (tTo dD rfl (by omega) rfl)
   (all_cons (tTo dD rfl (by omega) rfl)
   all_nil))
  (aK [.sub 0 (.agg [.s,.b,.s,.b]) [(0,2,1),(2,2,2)]] ⟨⟨fun _ _ h=>ah.is h,fun _ _ h=>ah.fst h,fun _ _ h=>ah.snd h,trivial⟩,trivial⟩) (dR (halves fun _ _ hs h1 h2=>bk.join hs h1 h2))
theorem _root_.Go.Proofs.YthmcngjhkmpneaaGreat.CJ {v:Value}{q:Rat}{i:Nat}{w:World} (hx:ah w v q i) (hk:i<=200000):Calls Tryz.prog 35 #[v] w (gS w q i):=by
 exact nw (NZ hk) rfl (vs:=[v]) ⟨cW rfl (fun _ _ _ g h=>ah.kp h g) hx,trivial⟩
def N0 (q r t:Rat) (i j:Nat):List WP:=[Dw q i,fun w v=>ae w v q.num i,fun w v=>ae w v (q.den:Int) i,Dw r j,fun w v=>ae w v r.num j,fun w v=>ae w v (r.den:Int) j,fun w v=>ae w v (q.num*(r.den:Int)) (i+j),fun w v=>ae w v (r.num*(q.den:Int)) (j+i),fun w v=>ae w v ((q.num*(r.den:Int))+(r.num*(q.den:Int))) ((i+j)+(j+i)+1),fun w v=>ae w v ((q.den:Int)*(r.den:Int)) (i+j),Dw t (((i+j)+(j+i)+1)+(i+j)+2),fun w v=>ae w v t.num (((i+j)+(j+i)+1)+(i+j)+2),fun w v=>ae w v (t.den:Int) (((i+j)+(j+i)+1)+(i+j)+2),Dw t (3*(i+j)+3)]
def N4:List Out:=[⟨.agg [.s,.b,.s,.b],[(0,0,0),(0,2,1),(2,2,2)]⟩,⟨.agg [.s,.b,.s,.b],[(0,0,3),(0,2,4),(2,2,5)]⟩]
def N5:List Site:=[⟨69,[.fact 1,.fact 5],[oD 6],false⟩,
   ⟨69,[.fact 4,.fact 2],[oD 7],false⟩,
   ⟨90,[.fact 6,.fact 7],[oD 8],false⟩,
   ⟨69,[.fact 2,.fact 5],[oD 9],false⟩,
   ⟨62,[.fact 8,.fact 9],[⟨.agg [.s,.b,.s,.b],[(0,0,10),(0,2,11),(2,2,12)]⟩],false⟩]
theorem addr {q r t:Rat}{i j:Nat} (hk:i+j<=50000) (ht:q+r=t):ai (ph (N0 q r t i j)) Tryz.prog ⟨40,[.fact 0,.fact 3],[⟨sS,[(0,0,13)]⟩],false⟩:=
 c5 N4 [oQ 10] N5 Tryz.func40 (by kernel_rfl)
  (all_cons (jh dD dD rfl (by omega) rfl)
   (all_cons (jh dD dD rfl (by omega) rfl)
   (all_cons (N6 dD dD rfl (by omega) rfl)
   (all_cons (jh dD dD rfl (by omega) rfl)
   (all_cons (jg dD dD rfl rfl rfl (by omega) (by rw [<- ht,NM]))
   all_nil)))))
  (aK [.sub 0 (.agg [.s,.b,.s,.b]) [(0,2,1),(2,2,2)],.sub 3 (.agg [.s,.b,.s,.b]) [(0,2,4),(2,2,5)]] ⟨⟨fun _ _ h=>ah.is h,fun _ _ h=>ah.fst h,fun _ _ h=>ah.snd h,trivial⟩,⟨fun _ _ h=>ah.is h,fun _ _ h=>ah.fst h,fun _ _ h=>ah.snd h,trivial⟩,trivial⟩) (dR (weak fun _ _ h=>ah.more h (by omega)))
theorem _root_.Go.Proofs.YthmcngjhkmpneaaGreat.N7 {v u:Value}{q r:Rat}{i j:Nat}{w:World} (hx:ah w v q i) (hy:ah w u r j){t:Rat} (hk:i+j<=50000) (ht:q+r=t):Calls Tryz.prog 40 #[v,u] w (fo w t (3*(i+j)+3)):=by
 exact eV (addr (q:=q) (r:=r) (i:=i) (j:=j) hk ht) rfl (vs:=[v,u]) ⟨cW rfl (fun _ _ _ g h=>ah.kp h g) hx,cW rfl (fun _ _ _ g h=>ah.kp h g) hy,trivial⟩
theorem ur {p q x x1 x2 i j:Nat}{z:Rat}{y:Rat}{t:Rat} (hp:∀w v,Φ p w v->ah w v z i) (hq:∀w v,Φ q w v->ah w v y j) (hx:Φ x=Dw t (3*(i+j)+3)) (hx1:Φ x1=fun w v=>ae w v t.num (3*(i+j)+3)) (hx2:Φ x2=fun w v=>ae w v (t.den:Int) (3*(i+j)+3)) (hk:i+j<=50000) (ht:z+y=t):ai Φ Tryz.prog ⟨40,[.fact p,.fact q],[⟨sS,[(0,0,x),(0,2,x1),(2,2,x2)]⟩],false⟩:=
 dj fun _ _ _ _ h0 h1=>(N7 (hp _ _ (get h0)) (hq _ _ (get h1)) hk ht).mono fun _ _ h=>iF hx hx1 hx2 h
def N8 (q r t:Rat) (i j:Nat):List WP:=[Dw q i,fun w v=>ae w v q.num i,fun w v=>ae w v (q.den:Int) i,Dw r j,fun w v=>ae w v r.num j,fun w v=>ae w v (r.den:Int) j,fun w v=>ae w v (q.num*r.num) (i+j),fun w v=>ae w v ((q.den:Int)*(r.den:Int)) (i+j),Dw t ((i+j)+(i+j)+2),fun w v=>ae w v t.num ((i+j)+(i+j)+2),fun w v=>ae w v (t.den:Int) ((i+j)+(i+j)+2),Dw t (2*(i+j)+2)]
def N9:List Out:=[⟨.agg [.s,.b,.s,.b],[(0,0,0),(0,2,1),(2,2,2)]⟩,⟨.agg [.s,.b,.s,.b],[(0,0,3),(0,2,4),(2,2,5)]⟩]
def Oe:List Site:=[⟨69,[.fact 1,.fact 4],[oD 6],false⟩,
   ⟨69,[.fact 2,.fact 5],[oD 7],false⟩,
   ⟨62,[.fact 6,.fact 7],[⟨.agg [.s,.b,.s,.b],[(0,0,8),(0,2,9),(2,2,10)]⟩],false⟩]
theorem Of {q r t:Rat}{i j:Nat} (hk:i+j<=50000) (ht:q*r=t):ai (ph (N8 q r t i j)) Tryz.prog ⟨52,[.fact 0,.fact 3],[⟨sS,[(0,0,11)]⟩],false⟩:=
 c5 N9 [oQ 8] Oe Tryz.func52 (by kernel_rfl)
  (all_cons (jh dD dD rfl (by omega) rfl)
   (all_cons (jh dD dD rfl (by omega) rfl)
   (all_cons (jg dD dD rfl rfl rfl (by omega) (by rw [<- ht,NN]))
   all_nil)))
  (aK [.sub 0 (.agg [.s,.b,.s,.b]) [(0,2,1),(2,2,2)],.sub 3 (.agg [.s,.b,.s,.b]) [(0,2,4),(2,2,5)]] ⟨⟨fun _ _ h=>ah.is h,fun _ _ h=>ah.fst h,fun _ _ h=>ah.snd h,trivial⟩,⟨fun _ _ h=>ah.is h,fun _ _ h=>ah.fst h,fun _ _ h=>ah.snd h,trivial⟩,trivial⟩) (dR (weak fun _ _ h=>ah.more h (by omega)))
theorem _root_.Go.Proofs.YthmcngjhkmpneaaGreat.Og {v u:Value}{q r:Rat}{i j:Nat}{w:World} (hx:ah w v q i) (hy:ah w u r j){t:Rat} (hk:i+j<=50000) (ht:q*r=t):Calls Tryz.prog 52 #[v,u] w (fo w t (2*(i+j)+2)):=by
 exact eV (Of (q:=q) (r:=r) (i:=i) (j:=j) hk ht) rfl (vs:=[v,u]) ⟨cW rfl (fun _ _ _ g h=>ah.kp h g) hx,cW rfl (fun _ _ _ g h=>ah.kp h g) hy,trivial⟩
theorem uG {p q x x1 x2 i j:Nat}{z:Rat}{y:Rat}{t:Rat} (hp:∀w v,Φ p w v->ah w v z i) (hq:∀w v,Φ q w v->ah w v y j) (hx:Φ x=Dw t (2*(i+j)+2)) (hx1:Φ x1=fun w v=>ae w v t.num (2*(i+j)+2)) (hx2:Φ x2=fun w v=>ae w v (t.den:Int) (2*(i+j)+2)) (hk:i+j<=50000) (ht:z*y=t):ai Φ Tryz.prog ⟨52,[.fact p,.fact q],[⟨sS,[(0,0,x),(0,2,x1),(2,2,x2)]⟩],false⟩:=
 dj fun _ _ _ _ h0 h1=>(Og (hp _ _ (get h0)) (hq _ _ (get h1)) hk ht).mono fun _ _ h=>iF hx hx1 hx2 h
def Oh (q t:Rat) (i:Nat):List WP:=[Dw q i,fun w v=>ae w v q.num i,fun w v=>ae w v (q.den:Int) i,fun w v=>ae w v (-q.num) i,Dw t i]
def Oi:List Out:=[⟨.agg [.s,.b,.s,.b],[(0,0,0),(0,2,1),(2,2,2)]⟩]
def Oj:List Site:=[⟨92,[.fact 1],[oD 3],false⟩]
theorem Ok {q t:Rat}{i:Nat} (ht : -q=t):ai (ph (Oh q t i)) Tryz.prog ⟨42,[.fact 0],[⟨sS,[(0,0,4)]⟩],false⟩:=
 c5 Oi [⟨.agg [.s,.b,.s,.b],[(0,2,3),(2,2,2)]⟩] Oj Tryz.func42 (by kernel_rfl)
  (all_cons (nC dD rfl rfl)
   all_nil)
  (aK [.sub 0 (.agg [.s,.b,.s,.b]) [(0,2,1),(2,2,2)]] ⟨⟨fun _ _ h=>ah.is h,fun _ _ h=>ah.fst h,fun _ _ h=>ah.snd h,trivial⟩,trivial⟩) (dR (halves fun _ _ hs h1 h2=>ah.join hs (ae.dP h1 (by rw [<- ht,Rat.neg_num])) (ae.dP h2 (by rw [<- ht,Rat.neg_den]))))
theorem _root_.Go.Proofs.YthmcngjhkmpneaaGreat.Ol {v:Value}{q:Rat}{i:Nat}{w:World} (hx:ah w v q i){t:Rat} (ht : -q=t):Calls Tryz.prog 42 #[v] w (fo w t i):=by
 exact eV (Ok ht) rfl (vs:=[v]) ⟨cW rfl (fun _ _ _ g h=>ah.kp h g) hx,trivial⟩
theorem Ch {p x x1 x2 i:Nat}{z:Rat}{t:Rat} (hp:∀w v,Φ p w v->ah w v z i) (hx:Φ x=Dw t i) (hx1:Φ x1=fun w v=>ae w v t.num i) (hx2:Φ x2=fun w v=>ae w v (t.den:Int) i) (ht : -z=t):ai Φ Tryz.prog ⟨42,[.fact p],[⟨sS,[(0,0,x),(0,2,x1),(2,2,x2)]⟩],false⟩:=
 da fun _ _ _ h0=>(Ol (hp _ _ (get h0)) ht).mono fun _ _ h=>iF hx hx1 hx2 h
theorem _root_.Go.Proofs.YthmcngjhkmpneaaGreat.ak.nor {w:World}{v:Value}{z:Int}{k:Nat} (h:ak w v z k):c6 w v z:=h.1
theorem ui {p q i j:Nat}{z y:Int}{r:Bool} (hp:∀w v,Φ p w v->ae w v z i) (hq:∀w v,Φ q w v->ak w v y j) (hk:i<=1000000) (he:z=y) (hr:true=r):ai Φ Tryz.prog ⟨84,[.fact p,.fact q],[oL (.cb r)],false⟩:=
 dj fun _ _ _ _ h0 h1=>(hr▸L6 (hp _ _ (get h0)) hk (he▸(hq _ _ (get h1)).1)).mono fun _ _ h=>nt h
theorem bk.fst {w:World}{v:Value}{q:Rat}{k:Nat} (h:bk w v q k):ak w (aN 0 2 v) q.num k:=by obtain ⟨_,_,_,_,_,_,_,_,rfl,h1,_⟩:=h;exact h1
theorem bk.snd {w:World}{v:Value}{q:Rat}{k:Nat} (h:bk w v q k):ak w (aN 2 2 v) (q.den:Int) k:=by obtain ⟨_,_,_,_,_,_,_,_,rfl,_,h2⟩:=h;exact h2
def Ti (q:Rat) (i j:Nat):List WP:=[Dw q i,fun w v=>ae w v q.num i,fun w v=>ae w v (q.den:Int) i,fun w v=>bk w v q j,Nw q.num j,Nw (q.den:Int) j]
def Tj:List Out:=[⟨.agg [.s,.b,.s,.b],[(0,0,0),(0,2,1),(2,2,2)]⟩,⟨.agg [.b,.s,.b,.s],[(0,0,3),(0,2,4),(2,2,5)]⟩]
def Tk:List Site:=[⟨84,[.fact 1,.fact 4],oT,false⟩,
   ⟨84,[.fact 2,.fact 5],oT,false⟩]
theorem Tm {q:Rat}{i j:Nat} (hk:i<=1000000):ai (ph (Ti q i j)) Tryz.prog ⟨37,[.fact 0,.fact 3],oT,false⟩:=
 c5 Tj oT Tk Tryz.func37 (by kernel_rfl)
  (all_cons (ui dD nN (by omega) rfl rfl)
   (all_cons (ui dD nN (by omega) rfl rfl)
   all_nil))
  (aK [.sub 0 (.agg [.s,.b,.s,.b]) [(0,2,1),(2,2,2)],.sub 3 (.agg [.b,.s,.b,.s]) [(0,2,4),(2,2,5)]] ⟨⟨fun _ _ h=>ah.is h,fun _ _ h=>ah.fst h,fun _ _ h=>ah.snd h,trivial⟩,⟨fun _ _ h=>bk.is h,fun _ _ h=>bk.fst h,fun _ _ h=>bk.snd h,trivial⟩,trivial⟩) bh
theorem _root_.Go.Proofs.YthmcngjhkmpneaaGreat.Tq {v:Value}{q:Rat}{i:Nat}{w:World} (hx:ah w v q i){u:Value}{r:Rat}{j:Nat} (hy:bk w u r j) (hk:i<=1000000) (e:q=r):Calls Tryz.prog 37 #[v,u] w (qb w true):=by
 subst e
 exact Qe (Tm hk) (vs:=[v,u]) ⟨cW rfl (fun _ _ _ g h=>ah.kp h g) hx,cW rfl (fun _ _ _ g h=>bk.kp h g) hy,trivial⟩
theorem E8 {p q i j:Nat}{z y:Rat}{r:Bool} (hp:∀w v,Φ p w v->ah w v z i) (hq:∀w v,Φ q w v->bk w v y j) (hk:i<=1000000) (he:z=y) (hr:true=r):ai Φ Tryz.prog ⟨37,[.fact p,.fact q],[oL (.cb r)],false⟩:=
 dj fun _ _ _ _ h0 h1=>(hr▸Tq (hp _ _ (get h0)) (hq _ _ (get h1)) hk he).mono fun _ _ h=>nt h
theorem te {p q i j:Nat}{z:Int}{y:Int}{r:Bool} (hp:∀w v,Φ p w v->ak w v z i) (hq:∀w v,Φ q w v->ak w v y j) (he:z=y) (hr:true=r):ai Φ Tryz.prog ⟨91,[.fact p,.fact q],[oL (.cb r)],false⟩:=
 dj fun _ _ _ _ h0 h1=>(hr▸L7 (hp _ _ (get h0)).1 (hq _ _ (get h1)).1 he).mono fun _ _ h=>nt h
def Ts (q:Rat) (i j:Nat):List WP:=[fun w v=>bk w v q i,Nw q.num i,Nw (q.den:Int) i,fun w v=>bk w v q j,Nw q.num j,Nw (q.den:Int) j]
def Tu:List Out:=[⟨.agg [.b,.s,.b,.s],[(0,0,0),(0,2,1),(2,2,2)]⟩,⟨.agg [.b,.s,.b,.s],[(0,0,3),(0,2,4),(2,2,5)]⟩]
def Tv:List Site:=[⟨91,[.fact 1,.fact 4],oT,false⟩,
   ⟨91,[.fact 2,.fact 5],oT,false⟩]
theorem Tw {q:Rat}{i j:Nat}  : ai (ph (Ts q i j)) Tryz.prog ⟨41,[.fact 0,.fact 3],oT,false⟩:=
 c5 Tu oT Tv Tryz.func41 (by kernel_rfl)
  (all_cons (te nN nN rfl rfl)
   (all_cons (te nN nN rfl rfl)
   all_nil))
  (aK [.sub 0 (.agg [.b,.s,.b,.s]) [(0,2,1),(2,2,2)],.sub 3 (.agg [.b,.s,.b,.s]) [(0,2,4),(2,2,5)]] ⟨⟨fun _ _ h=>bk.is h,fun _ _ h=>bk.fst h,fun _ _ h=>bk.snd h,trivial⟩,⟨fun _ _ h=>bk.is h,fun _ _ h=>bk.fst h,fun _ _ h=>bk.snd h,trivial⟩,trivial⟩) bh
theorem _root_.Go.Proofs.YthmcngjhkmpneaaGreat.Sg {v:Value}{q:Rat}{i:Nat}{w:World} (hx:bk w v q i){u:Value}{r:Rat}{j:Nat} (hy:bk w u r j) (e:q=r):Calls Tryz.prog 41 #[v,u] w (qb w true):=by
 subst e
 exact Qe Tw (vs:=[v,u]) ⟨cW rfl (fun _ _ _ g h=>bk.kp h g) hx,cW rfl (fun _ _ _ g h=>bk.kp h g) hy,trivial⟩
theorem _root_.Go.Proofs.YthmcngjhkmpneaaGreat.Om {w:World}{p:Option Addr}{cap k m:Nat}{xs:List Nat} (hx:Sl w .u32 (.slice p xs.length cap) xs) (hm:(xs.take k).length=m):Sl w .u32 (.slice p m cap) (xs.take k):=by
 have:=hx.take (min xs.length k) (Nat.min_le_left _ _)
 rw [show xs.take (min xs.length k)=xs.take k by
  rcases Nat.le_total xs.length k with h | h
  ·rw [Nat.min_eq_left h,List.take_length,List.take_of_length_le h]
  ·rw [Nat.min_eq_right h]] at this
 rw [<- hm,List.length_take,Nat.min_comm]
 exact this
theorem aG.i {w:World}{v:Value}{b:Bool}{xs:List Nat} (k:Nat) (h:aG w v b xs) (hk:xs.length<=k):aj w v (sg b (Proofs.YthmcngjhkmpneaaGreat.val 4294967296 xs)) k:=by
 obtain ⟨s,rfl,h1,h2⟩:=h
 exact ⟨_,_,_,rfl,Num.row h1 h2 k hk,rfl⟩
theorem On {p x x':Nat} (k:Nat){ki z:Int}{b:Bool}{xs:List Nat} (hki:(k:Int)=ki) (hp:∀w v,Φ p w v->aG w v b xs) (hx:Φ x=fun w v=>aG w v b (xs.take k)) (hx':Φ x'=Iw z k) (hz:sg b (Proofs.YthmcngjhkmpneaaGreat.val 4294967296 (xs.take k))=z):ai Φ Tryz.prog ⟨65,[.fact p,.lit (.ci .i64 ki)],[⟨iS,[(0,0,x),(0,0,x')]⟩],false⟩:=
 dj fun _ w v u h0 h1=>by
  subst hki
  obtain rfl:u = .int .i64 k:=h1
  obtain ⟨s,rfl,a1,a2⟩:=hp _ _ (get h0)
  obtain ⟨p,c,rfl,c1,-⟩:=id a1
  obtain ⟨m,hm⟩:∃m,(xs.take k).length=m:=⟨_,rfl⟩
  refine (L9 k c1 hm).mono fun e w' ⟨he,g⟩=>⟨g,[_],he,⟨lA,fun q hq w1 hw=>?_⟩,trivial⟩
  have r:aG w1 (.agg #[.bool b,.slice p m c]) b (xs.take k):=aG.kp ⟨_,rfl,(Om a1 hm).kp (Kp.of g),a2.take k⟩ hw.1
  simp only [List.mem_cons,List.not_mem_nil,or_false] at hq
  rcases hq with rfl | rfl
  ·show Φ x w1 _;rw [hx];exact r
  ·show Φ x' w1 _;rw [hx'];exact hz▸aG.i k r (by rw [List.length_take];omega)
theorem bE.fst {w:World}{v:Value}{b b':Bool}{xs ys:List Nat} (h:bE w v b xs b' ys):aG w (aN 0 2 v) b xs:=by obtain ⟨s,s',rfl,h1,h2,h3,h4⟩:=h;exact ⟨_,rfl,h1,h2⟩
theorem bE.snd {w:World}{v:Value}{b b':Bool}{xs ys:List Nat} (h:bE w v b xs b' ys):aG w (aN 2 2 v) b' ys:=by obtain ⟨s,s',rfl,h1,h2,h3,h4⟩:=h;exact ⟨_,rfl,h3,h4⟩
theorem bE.join {w:World}{v:Value}{b b':Bool}{xs ys:List Nat} (hs:qS.is v) (h1:aG w (aN 0 2 v) b xs) (h2:aG w (aN 2 2 v) b' ys):bE w v b xs b' ys:=by
 obtain ⟨vs,rfl,h⟩:=hs
 match vs,h with
 | [v0,v1,v2,v3],h=>
  obtain ⟨s,e,a1,a2⟩:=h1
  obtain ⟨s',e',a3,a4⟩:=h2
  have e1:(Value.agg #[v0,v1]) = .agg #[.bool b,s]:=e
  have e2:(Value.agg #[v2,v3]) = .agg #[.bool b',s']:=e'
  simp only [Value.agg.injEq,Array.mk.injEq,List.cons.injEq,and_true] at e1 e2
  obtain ⟨rfl,rfl⟩:=e1
  obtain ⟨rfl,rfl⟩:=e2
  exact ⟨_,_,rfl,a1,a2,a3,a4⟩
theorem q7 {p q x x':Nat} (k:Nat){z:Int}{b:Bool}{xs:List Nat} (hp:∀w v,Φ p w v->aG w v b xs) (hq:∀w v,Φ q w v->v = .int .i64 (k:Int)) (hx:Φ x=fun w v=>aG w v b (xs.take k)) (hx':Φ x'=Iw z k) (hz:sg b (Proofs.YthmcngjhkmpneaaGreat.val 4294967296 (xs.take k))=z):ai Φ Tryz.prog ⟨65,[.fact p,.fact q],[⟨iS,[(0,0,x),(0,0,x')]⟩],false⟩:=fun X w vs hX ha=>by
 match vs,ha with
 | [v,u],ha=>
  exact On k rfl hp hx hx' hz X w [v,u] hX ⟨ha.1,hq _ _ (get ha.2.1),trivial⟩
def nD (w:World) (v:Value) (xs:List Nat):Prop:=Sl w .u32 v xs∧All 4294967296 xs
theorem nD.kp {w w':World}{v:Value}{xs:List Nat} (h:nD w v xs) (g:Kp w w'):nD w' v xs:=⟨h.1.kp g,h.2⟩
theorem aG.sl {w:World}{v:Value}{b:Bool}{xs:List Nat} (h:aG w v b xs):nD w (aN 1 1 v) xs:=by obtain ⟨s,rfl,h1,h2⟩:=h;exact ⟨h1,h2⟩
theorem bE.qv {w:World}{v:Value}{b b':Bool}{xs ys:List Nat} (k:Nat){z u:Int} (h:bE w v b xs b' ys) (h1:xs.length<=k) (h2:ys.length<=k) (hz:sg b (Proofs.YthmcngjhkmpneaaGreat.val 4294967296 xs)=z) (hu:sg b' (Proofs.YthmcngjhkmpneaaGreat.val 4294967296 ys)=u):QV w v z u k:=
 QV.join (bE.is h) (hz▸aG.i k (bE.fst h) h1) (hu▸aG.i k (bE.snd h) h2) (Nat.le_refl _) (Nat.le_refl _)
end
end Go.Proofs.YthmcngjhkmpneaaGreat.Sym
