/- Division of polynomials -/
import Derived.Test.YtlmanbjkkjfjgaaGreatRowP
import Derived.Lib.SmallJoins
import Derived.Lay
import Derived.MakeChecks
import Derived.Stop.Joined
import Derived.SevenTiedAt
import Derived.Deep.Slices
import Derived.Deep.DeepCutAuto
set_option maxRecDepth 100000
namespace Go.Proofs.YtlmanbjkkjfjgaaGreat.Sym
open Go.Proofs.Tryz
open Go.RowKit
variable {w:World}{v:Value}{z:Nat->Int}{k l n sz:Nat}{y:Int}{f:FuncId}{G:WP}{J:List Nat}
theorem Bd.qn {A k:Nat} (h:Bd A k):∀j,Bd (A ^ j) (j*k+1)
 | 0=>by rw [Nat.pow_zero,Nat.zero_mul];show 1<_;decide
 | j+1=>by rw [Nat.pow_succ,Nat.succ_mul,show j*k+k+1=(j*k+1)+k by omega];exact Bd.mul (Bd.qn h j) h
theorem Qd (k:Nat):Bd (0:Int).natAbs k:=Nat.pow_pos (by omega)
def mW (z y:Nat->Int) (n m:Nat) (c:Int):Nat->Nat->Int
 | 0,p=>z p
 | j+1,p=>mW z y n m c j p*c-(if m-1-j<=p then mW z y n m c j (m-1-j+n)*y (p-(m-1-j)) else 0)
section
variable {A y:Nat->Int}{c pw:Int}{m i j p:Nat}
theorem qE (s:Int) (i:Nat) (g:Nat->Int) (p:Nat):conv (λx=>if x=i then s else 0) g p=if i<=p then s*g (p-i) else 0:=by
 rw [qD];split
 ·rename_i h;have e:∀k,k<=p->sumTo (λx=>(if x=i then s else 0)*g (p-x)) (k+1)=if i<=k then s*g (p-i) else 0:=by
   intro k
   induction k with
   | zero=>
    intro _;simp only [sumTo];by_cases h0:i=0
    ·subst h0;simp
    ·rw [if_neg (by omega),if_neg (by omega)];omega
   | succ k ih=>
    intro hk;rw [sumTo,ih (by omega)];by_cases h0:i=k+1
    ·subst h0;rw [if_neg (by omega),if_pos rfl,if_pos (by omega)];omega
    ·rw [if_neg (c:=k+1=i) (by omega)];by_cases h1:i<=k
     ·rw [if_pos h1,if_pos (by omega)];omega
     ·rw [if_neg h1,if_neg (by omega)];omega
  rw [e p (Nat.le_refl _),if_pos h]
 ·rename_i h;have e:∀k,k<=p+1->sumTo (λx=>(if x=i then s else 0)*g (p-x)) k=0:=by
   intro k
   induction k with
   | zero=>intro _;rfl
   | succ k ih=>
    intro hk;rw [sumTo,ih (by omega),if_neg (by omega)];omega
  exact e _ (Nat.le_refl _)
theorem Bd.PY {a b d:Int} (ha:Bd a.natAbs i) (hc:Bd c.natAbs j) (hb:Bd b.natAbs i) (hd:Bd d.natAbs j):Bd (a*c-b*d).natAbs (i+j+1):=
 (Bd.qA (Bd.mul ha hc) (Bd.mul hb hd)).le (by rw [<- Int.natAbs_mul,<- Int.natAbs_mul];omega)
end
section
variable {y:Nat->Int}{m j:Nat}{c:Int}
end
section
variable {Φ:PH}{p q x x' m la kp K j j2:Nat}{y:Nat->Int}{c:Int}{L2:List Int}
end
section
variable {Φ:PH}{p q x m j:Nat}{c:Int}{L:List Int}{zz:Nat->Nat->Int}{ln:Nat->Nat}
theorem Yq  (h:aA 2 28 (If z k) n w v):nh w v n z k:=by
 obtain ⟨p,c,rfl,hc,he⟩:=h.rw;obtain ⟨rows,-,-,ho,-⟩:=h;have hcap:c<=9223372036854775807:=by
  rcases ho.1.2 with ⟨h1,-⟩ | ⟨g,cap,cur,h1,-,-,-,h4,-⟩
  ·simp only [Value.slice.injEq] at h1;omega
  ·simp only [Value.slice.injEq] at h1;obtain ⟨-,-,rfl⟩:=h1;simp only [maxLen] at h4;omega
 refine ⟨p,c,rfl,hc,hcap,?_⟩;rcases Nat.eq_zero_or_pos n with h0 | h0
 ·exact .inl h0
 ·obtain ⟨b,off,rfl,-⟩:=he 0 h0;refine .inr ⟨b,off,rfl,λj hj=>?_⟩;obtain ⟨b',off',hb,l,h1,h2,x,s,X,h3,h4,h5⟩:=he j hj;simp only [Option.some.injEq,Addr.mk.injEq,and_true] at hb;obtain ⟨rfl,rfl⟩:=hb;obtain rfl:l = [.bool x,s]:=by simpa using h3
  exact ⟨x,s,X,h2 0 _ rfl,h2 1 _ rfl,h4,h5⟩
theorem BI (hp:Im Φ p (aA 2 28 (If z k) n)) (hx:Φ x=Nw (aT z n:Int) k) (hk:k<=1000000:=by omega):aj Φ prog ⟨103,[.fact p],[⟨iS,[(0,0,x)]⟩],false⟩:=
 gC λ_ _ _ h0=>((TR (Yq (hp _ _ (get h0))) hk).mono λ_ _ h=>h.got).mono λ_ _ h=>kP hx h
end
def eP (f:Nat->Int) (c:Int) (j i:Nat):Int:=if i<j then f i / c else f i
def dvL (z:Nat->Int) (n:Nat) (c:Int):List Int:=mk (tl z n) λi=>z i / c
section
variable {f:Nat->Int}{c:Int}{i j:Nat}
theorem NV:eP f c 0 i=f i:=if_neg (by omega)
theorem NW (h:i≠j):eP f c (j+1) i=eP f c j i:=by unfold eP;split <;> split <;> first | rfl | omega
theorem BH:eP f c j j=f j:=if_neg (by omega)
theorem NX:eP f c j j / c=eP f c (j+1) j:=by rw [BH,eP,if_pos (by omega)]
end
theorem qg {f g:Nat->Int}:∀{n:Nat},(∀i,i<n->f i=g i)->aT f n=aT g n
 | 0,_=>rfl
 | n+1,h=>by rw [aT,aT,qg λi _=>h i (by omega),h n (by omega)]
theorem HF {z:Nat->Int}:∀{n:Nat} (i:Nat),i<n->aT z n∣(z i).natAbs
 | n+1,i,hi=>by
  rw [aT];rcases Nat.lt_or_ge i n with h | h
  ·exact Nat.dvd_trans (Nat.gcd_dvd_left _ _) (HF i h)
  ·obtain rfl:i=n:=by omega
   exact Nat.gcd_dvd_right _ _
theorem jK  (i:Nat) (hi:i<n):((aT z n:Nat):Int)∣z i:=Int.ofNat_dvd_left.2 (HF i hi)
theorem DD  (h:0<tl z n):((aT z n:Nat):Int)≠0:=λe=>by have h1:=fG z n h;have h2:=jK (z:=z) (n:=n) (tl z n-1) (by have:=bg z n;omega);rw [e] at h2;exact h1 (Int.zero_dvd.1 h2)
def cD (z:Nat->Int) (n:Nat):Int:=if qr z n<0 then -(aT z n:Int) else (aT z n:Int)
theorem wT  (i:Nat) (hi:i<n):cD z n∣z i:=by
 unfold cD;split
 ·exact Int.neg_dvd.2 (jK i hi)
 ·exact jK i hi
theorem Rm  (h:0<tl z n:=by omega):cD z n≠0:=by have:=DD h;unfold cD;split <;> omega
section
variable {Φ:PH}{p q x m j:Nat}{c:Int}{L:List Int}{zz:Nat->Nat->Int}{ln:Nat->Nat}
theorem BD  (h:ak w v y k):∃s n c,v = .agg #[.bool (decide (y<0)),.slice s n c]:=by obtain ⟨⟨p,c,h1,-⟩,-⟩:=h;exact ⟨_,_,_,h1⟩
end
section
variable {Φ:PH}{p q x y m j:Nat}{c:Int}{P:List Int}
end
theorem Ptr.is {F:WP} (h:Ptr sz F w v):(cC.one .p).is v:=by obtain ⟨b,o,rfl,_⟩:=h;exact ⟨⟨_,rfl⟩,λ_ h=>by cases h⟩
def me (f:FuncId) (sz:Nat) (G:WP) (w:World) (v:Value):Prop:=∃p,v = .func (.func f) #[] #[p]∧Ptr sz G w p
theorem me.is  (h:me f sz G w v):(cC.one .fv).is v:=by obtain ⟨p,rfl,_⟩:=h;exact ⟨⟨_,_,rfl⟩,λ_ h=>by cases h⟩
def yu (T:TypeId):Op->Option (List Operand)
 | .box t x=>if t=T then some [x] else none
 | _=>none
def yw (F:FuncId):Op->Option (List Operand)
 | .makeFunc (.func f) first captured=>if f=F∧first = #[] then (match captured.toList with | [x]=>some [x] | _=>none) else none
 | _=>none
section
variable {P:Program}{Φ:PH}{p q x j:Nat}{z a b:Int}
theorem Yr {T:TypeId} (hp:Im Φ p (Iw z k)) (hx:Φ x=Ptr 2 (Iw z k)):aj Φ P ⟨0,[.fact p],[oP x],.fresh J (yu T)⟩:=λX w ac o xs hX hm ha=>by
 unfold yu at hm;split at hm
 case h_2=>cases hm
 rename_i t y ho;split at hm
 case isFalse=>cases hm
 rename_i ht;subst ht;simp only [Option.some.injEq] at hm;subst hm;obtain ⟨b0,s0,X0,hv,_⟩:=hp _ _ (ha.1 w (Off.refl _ _));have hg:=World.grownBy_alloc w (.cells #[.bool b0,s0] t) none;refine ⟨.pointer (some ⟨w.heap.size,0,none⟩),w.alloc (.cells #[.bool b0,s0] t),?_,hg,cP ⟨⟨_,rfl⟩,λ_ h=>by cases h⟩ hx λw1 hw=>?_⟩
 ·unfold execOp;simp [ho,hv,Instr.box,newVar,newRow,Value.cells]
 ·refine ⟨_,_,rfl,[.bool b0,s0],rfl,λi u hi=>?_,?_⟩
  ·have hbk:=hw.2 w.heap.size (by simp) (λh=>by have:=hX _ h;omega);rw [World.cell?_of_block hbk,World.cell?_alloc_new];simpa using hi
  ·exact hv▸hp _ _ (ha.1 w1 ((Off.grown hg).trans hw λ_ _ h=>h))
theorem Ys  (hp:Im Φ p (Ptr sz G)) (hx:Φ x=me f sz G):aj Φ P ⟨0,[.fact p],[⟨.one .fv,[(0,0,x)]⟩],.quiet (yw f)⟩:=λX w ac o xs _ hm ha=>by
 unfold yw at hm;split at hm
 case h_2=>cases hm
 rename_i g first captured ho
 split at hm
 case isFalse=>cases hm
 rename_i hc;obtain ⟨rfl,rfl⟩:=hc;split at hm
 case h_2=>cases hm
 rename_i y hy;simp only [Option.some.injEq] at hm;subst hm;have hcap:captured = #[y]:=by apply Array.ext';simpa using hy
 subst hcap;refine ⟨.func (.func g) #[] #[ac.eval y],w,?_,bH w none,cP ⟨⟨_,_,rfl⟩,λ_ h=>by cases h⟩ hx λw1 hw=>⟨_,rfl,hp _ _ (ha.1 w1 hw)⟩⟩;unfold execOp;simp [ho,Instr.makeFunc]
end
def HH (z y:Int) (k l:Nat):List WP:=[Iw z k,Ptr 2 (Iw y l),Iw y l,Nw (z*y) (k+l)]
def Yt:List Step:=[bQ [1] [oI 2] (aQ 28),
   cB 117 [0,2] [oI 3]]
def Yu:List Out:=[oI 0,oP 1]
theorem Yw {z:Int} (hk:k+l<=400000):aj (ph (HH z y k l)) prog ⟨116,[0,1],[oI 3],false⟩:=adL Yu [oI 3] Yt func116 (by kernel_rfl) (lB (bT (sz:=2) (F:=Iw y l) ad (λ_ _ _ g h=>aD.kp h g) (λ_ _ h=>aD.is h) rfl) (lB (ud iI iI rfl rfl) au))
  (aP [.fact 0 (.agg [.b,.s]),.fact 1 (.one (.p))] ⟨λ_ _ h=>aD.is h,λ_ _ h=>Ptr.is (sz:=2) (F:=Iw y l) h,trivial⟩) aV
theorem Yx {Φ:PH}{f p x:Nat}{z t:Int} (hf:Im Φ f (me 116 2 (Iw y l))) (hp:Im Φ p (Iw z k)) (hx:Φ x=Nw t (k+l)) (ht:z*y=t) (hk:k+l<=400000:=by omega):aj Φ prog ⟨116,[.fact f,.fact p],[⟨iS,[(0,0,x)]⟩],.rj J⟩:=λX w u vs hX ha=>by
 obtain ⟨q,rfl,_⟩:=hf _ _ (ha.1 w (Off.refl _ _))
 match vs,ha.2 with
 | [v],h2=>
  refine ⟨#[q],rfl,(Yw (z:=z) (y:=y) hk X w [v,q] hX ⟨λw1 hw=>hp _ _ (h2.1 w1 hw),λw1 hw=>?_,trivial⟩).mono λe w' ⟨hg,us,he,ho⟩=>⟨hg,us,he,?_⟩⟩
  ·obtain ⟨q',e,h3⟩:=hf _ _ (ha.1 w1 hw);simp only [Value.func.injEq,Array.mk.injEq,List.cons.injEq,and_true,true_and] at e;exact e▸h3
  ·exact nF.ok (Φ:=Φ) (Ψ:=ph (HH z y k l)) (l:=[⟨.agg [.b,.s],[(0,0,3)]⟩]) (m:=[⟨iS,[(0,0,x)]⟩]) ⟨⟨rfl,⟨rfl,rfl,λ_ _ h=>hx▸ht▸h⟩,trivial⟩,trivial⟩ ho
def yx (z:Nat->Int) (y:Int) (n k l:Nat):List WP:=[Rw 2 (If z k) n,me 116 2 (Iw y l),Nz n,aA 2 28 (Nf (upto 0 (λi=>z i*y)) (k+l)) n,Nz n,aA 2 28 (Nf (upto n (λi=>z i*y)) (k+l)) n,Rw 2 (Nf (upto n (λi=>z i*y)) (k+l)) (tl (upto n (λi=>z i*y)) n)]
def Yy (z:Nat->Int) (y:Int) (n k l:Nat) (j:Nat):List WP:=[Nz j,aA 2 28 (Nf (upto j (λi=>z i*y)) (k+l)) n,λ_ _=>True,Ptr 2 (Iw (z j) k),Iw (z j) k,Nw ((z j)*y) (k+l),At 2,Ptr 2 (Nw ((upto j (λi=>z i*y)) j) (k+l)),aA 2 28 (Nf (upto (j+1) (λi=>z i*y)) (k+l)) n,Nz (j+1)]
def HI:bp:=⟨[0,1,4,8,9,10,11,12],[(.slot 13,.i),(.slot 5,.s)],[(.one 0,7),(.one 1,.cM [1] 8),(.one 1,.lo 1)],[.closed (.one (Ai 0)),.frm 3,.frm 0],7,[(8,5)]⟩
def HJ:List Step:=[bQ [7,4] oT (am .lss),bQ [0,7] [oP 10] (adK 25),bQ [10] [oI 11] (aQ 28),.base ⟨116,[1,11],[oI 12],.rj []⟩,.base ⟨0,[8,7],[oP 14],.joint [1] 13 (adK 25)⟩,.base ⟨0,[8,7,.any,12],[oS 15],.put [] 1 0 13 (fE 28 (.tmp 18) (.tmp 19))⟩,bQ [7,.lit (Ai 1)] [oN 16] (am .add)]
def YA:List Step:=[bQ [7,4] oF (am .lss)]
def YB:List Step:=[bQ [0] [oN 2] (aC 25),.base ⟨0,[2,2],[oS 3],.loose [] 1 0 (ga 25)⟩,bQ [0] [oN 4] (aC 25),.loop HI [(HJ,[.frm 16,.frm 15,.frm 0])] YA,.base ⟨69,[5],[oS 6],.dR [1] false⟩]
def YC:List Out:=[oS 0,⟨.one (.fv),[(0,0,1)]⟩]
theorem YD  (hn:n<=1000000) (hk:k+l<=400000):aj (ph (yx z y n k l)) prog ⟨111,[0,1],[oS 6],false⟩:=adL YC [oS 6] YB func111 (by kernel_rfl) (lB (aM (F:=(If z k)) underlying25 ad rfl) (lB (mI (n:=n) (F:=(Nf (upto 0 (λi=>z i*y)) (k+l))) ad (λ_ w=>ak.zero w (k+l)) rfl) (lB (aM (F:=(If z k)) underlying25 ad rfl) (bN (counted n (λj=>ph (yx z y n k l ++ Yy z y n k l j)) (λ_=>0) (λ_ p hp=>bO (show p<(yx z y n k l).length from hp)) ⟨λ_=>rfl,ad,bI,trivial⟩ (λj _=>by
   skip
   exact ⟨(HJ,[.frm 16,.frm 15,.frm 0]),rfl,⟨ad,ad,bI,trivial⟩,(lB (bK ad ad) (lB (bw (i:=j) (F:=(If z k)) underlying25 ad ad rfl) (lB (bT (sz:=2) (F:=Iw (z j) k) ad (λ_ _ _ g h=>aD.kp h g) (λ_ _ h=>aD.is h) rfl) (lB (Yx ad iI rfl rfl) (lB (fO (i:=j) (sz:=2) (n:=n) (F:=(Nf (upto j (λi=>z i*y)) (k+l))) underlying25 (λ_ _ h=>aA.arr h) ad rfl rfl) (lB (ij (i:=j) (n:=n) (F:=(λι w v=>ak w v ((upto j (λi=>z i*y)) ι) (k+l))) (F':=(λι w v=>ak w v ((upto (j+1) (λi=>z i*y)) ι) (k+l))) (G:=Nw ((z j)*y) (k+l)) (.tmp 18) (.tmp 19) ad ad ad rfl (λ_ _ h=>ak.cells h) (λ_ _ _ _ g h=>ak.kp h g) (λ_ _ _ g h=>ak.kp h g) (λ_ _ _ hi h=>by rw [oh hi];exact h) (λ_ _ h=>h.eq (ol j (λi=>z i*y)).symm) rfl) (lB (ch ad rfl) au)))))))⟩) (lB (tlF ad ad) au)
   (poC (λ_ _ h=>(λh=>h) h) poN)) (lB (eS [1] (iz (z:=(upto n (λi=>z i*y))) (n:=n) (k:=(k+l)) (F:=(Nf (upto n (λi=>z i*y)) (k+l))) (λ_ _ h=>aA.rw h) (λ_ _ _ h=>ak.i h) (λ_ _ _ _ g h=>ak.kp h g) rfl)) au)))))
  (aP [.fact 0 (.one (.s)),.fact 1 (.one (.fv))] ⟨Rw.Is 2 (If z k) n,λ_ _ h=>me.is (f:=116) (sz:=2) (G:=Iw y l) h,trivial⟩) aV
section
variable {Φ:PH}{p q x:Nat}{L:List Int}
theorem YE (hp:Im Φ p (Rw 2 (If z k) n)) (hq:Im Φ q (me 116 2 (Iw y l))) (hx:Φ x=Rw 2 (Nf (ae L) (k+l)) L.length) (hL:aw (mk n (λi=>z i*y))=L) (hn:n<=1000000:=by omega) (hk:k+l<=400000:=by omega):aj Φ prog ⟨111,[.fact p,.fact q],[oS x],false⟩:=
 aU (YD hn hk) ⟨hp,hq,trivial⟩ ⟨⟨rfl,⟨rfl,rfl,λ_ _ h=>hx▸hL▸rh h⟩,trivial⟩,trivial⟩
def YF (z:Nat->Int) (y:Int) (n k l:Nat):List WP:=[Rw 2 (If z k) n,Iw y l,Ptr 2 (Iw y l),me 116 2 (Iw y l),Rw 2 (Nf (ae (aw (mk n (λi=>z i*y)))) (k+l)) ((aw (mk n (λi=>z i*y))).length)]
def YG:List Step:=[.base ⟨0,[1],[oP 2],.fresh [] (yu 28)⟩,bQ [2] [⟨.one (.fv),[(0,0,3)]⟩] (yw 116),
   cB 111 [0,3] [oS 4]]
def YH:List Out:=[oS 0,oI 1]
theorem YI  (hn:n<=1000000) (hk:k+l<=400000):aj (ph (YF z y n k l)) prog ⟨74,[0,1],[oS 4],false⟩:=adL YH [oS 4] YG func74 (by kernel_rfl) (lB (Yr iI rfl) (lB (Ys (sz:=2) (G:=Iw y l) ad rfl) (lB (YE (Rw.To 2 (If z k) n (λ_ _ _ _ h=>h)) ad rfl rfl) au)))
  (aP [.fact 0 (.one (.s)),.fact 1 (.agg [.b,.s])] ⟨Rw.Is 2 (If z k) n,λ_ _ h=>aD.is h,trivial⟩) aV
theorem rk (hp:Im Φ p (Rw 2 (If z k) n)) (hq:Im Φ q (Iw y l)) (hx:Φ x=Rw 2 (Nf (ae L) (k+l)) L.length) (hL:aw (mk n (λi=>z i*y))=L) (hn:n<=1000000:=by omega) (hk:k+l<=400000:=by omega):aj Φ prog ⟨74,[.fact p,.fact q],[oS x],false⟩:=
 aU (YI hn hk) ⟨hp,hq,trivial⟩ ⟨⟨rfl,⟨rfl,rfl,λ_ _ h=>hx▸hL▸h⟩,trivial⟩,trivial⟩
end
end Go.Proofs.YtlmanbjkkjfjgaaGreat.Sym
namespace Go.Proofs.YtlmanbjkkjfjgaaGreat
open Go.Proofs.Tryz
open Go.ChangeShapes Go.WideShapes Go.ChangeAt Go.RowKit
theorem Tryz.cells24:prog.cellsOf 28=2:=by kernel_rfl
theorem Tryz.cells4:prog.cellsOf 4=1:=by kernel_rfl
theorem Tryz.cells22:prog.cellsOf 26=1:=by kernel_rfl
section
variable {H:Type}{enc:TypeId×Value->H}
theorem wm {W:World}{base:Nat}{held:Bool}{x y:Value}{fuel:Nat}{z:DataW H×List MemPlace}
  (h:DataW.trod enc prog W base (λ_=>true) held fuel 28 [x,y]=some z):∃b xs,x = .bool b∧Sl W .u32 y xs∧All 4294967296 xs:=by
 obtain ⟨y0,y1,n,-,-,h0,h1⟩:=trod_struct2 underlying28 h;simp only [Tryz.cells4,Tryz.cells22,List.drop_zero,List.take_succ_cons,List.take_zero,List.drop_succ_cons] at h0 h1;obtain ⟨b,e0,-⟩:=DataW.trod_bool underlying4 h0;obtain rfl:x = .bool b:=by simpa using e0
 obtain ⟨xs,h2,h3⟩:=YJ (W:=W) underlying26 underlying106 h1;exact ⟨b,xs,rfl,h2,h3⟩
end
end Go.Proofs.YtlmanbjkkjfjgaaGreat
namespace Go.Proofs.YtlmanbjkkjfjgaaGreat.Sym
open Go.Proofs.Tryz
open Go.RowKit
variable {i j p q:Nat}{y z:Rat}
section
variable {Φ:PH}
theorem YK {r:Int} (hp:Im Φ p (Dw z i)) (hq:Im Φ q (Dw y j)) (hr:mf z y=r) (hk:i+j<=100000:=by omega):aj Φ prog ⟨130,[.fact p,.fact q],[oL (Ai r)],false⟩:=
 fe λ_ _ _ _ h0 h1=>(YL (hp _ _ (get h0)) (hq _ _ (get h1)) r hk hr).mono λ_ _ h=>HK h
theorem qk {x x1 x2:Nat}{t:Rat} (hp:Im Φ p (Dw z i)) (hq:Im Φ q (Dw y j)) (hx:Φ x=Dw t (2*(i+j)+2)) (hx1:Φ x1=Jw t.num (2*(i+j)+2)) (hx2:Φ x2=Jw (t.den:Int) (2*(i+j)+2)) (h0':y≠0) (ht:z / y=t) (hk:i+j<=50000:=by omega):aj Φ prog ⟨152,[.fact p,.fact q],[⟨sS,[(0,0,x),(0,2,x1),(2,2,x2)]⟩],false⟩:=
 fe λ_ _ _ _ h0 h1=>(YM (hp _ _ (get h0)) (hq _ _ (get h1)) hk h0' ht).mono λ_ _ h=>lE hx hx1 hx2 h
end
section
variable {Φ:PH}
theorem Arr.is {sz n:Nat}{F:PH}{w:World}{v:Value} (h:Arr sz F n w v):(cC.one .s).is v:=by obtain ⟨p,c,rfl,_⟩:=h;exact ⟨⟨_,_,_,rfl⟩,λ_ h=>by cases h⟩
end
section
variable (z y:Int)(ez ey:Nat->Int)
end
section
variable {Φ:PH}{x x1 x2 n K:Nat}{z y:Int}{ez ey:Nat->Int}{t:Rat}
end
end Go.Proofs.YtlmanbjkkjfjgaaGreat.Sym
namespace Go.Proofs.YtlmanbjkkjfjgaaGreat
open Go.Proofs.Tryz
open Go.RowKit Go.Proofs.YtlmanbjkkjfjgaaGreat.Sym
variable {n sz:Nat}{F:PH}{w:World}{v:Value}
theorem Rw.grow {w':World} (hF:∀i w w1 v,Kp w w1->F i w v->F i w1 v) (h:Rw sz F n w v) (g:w.grownBy w' none):Rw sz F n w' v:=by obtain ⟨p,c,rfl,hc,h1⟩:=h;refine ⟨p,c,rfl,hc,λi hi=>?_⟩;obtain ⟨b,off,rfl,l,h2,h3,h4⟩:=h1 i hi;exact ⟨b,off,rfl,l,h2,λj u hj=>cell_grown g (h3 j u hj),hF _ _ _ _ (Kp.of g) h4⟩
theorem Rw.ko {w1:World} (hF:∀i w w1 v,Kp w w1->F i w v->F i w1 v) (h:Rw sz F n w v) (ho:Off (λ_=>False) w w1):Rw sz F n w1 v:=by have:=Rw.arg (Φ:=λ_=>Rw sz F n) (p:=0) (X:=λ_=>False) hF h rfl (λ_ h=>h.elim);exact this w1 ho
theorem three (a b c:Int) (w:World):Rw 1 (λi _ v=>v = .agg #[.int .i64 (ae [a,b,c] i)]) 3 (w.alloc (.cells #[.int .i64 a,.int .i64 b,.int .i64 c] 3)) (.slice (some ⟨w.heap.size,0,none⟩) 3 3):=by
 refine ⟨_,_,rfl,Nat.le_refl _,λi hi=>⟨_,_,rfl,[.int .i64 (ae [a,b,c] i)],rfl,λj u hj=>?_,rfl⟩⟩;cases j with
 | succ j=>simp at hj
 | zero=>
  simp only [List.getElem?_cons_zero,Option.some.injEq] at hj;subst hj;rw [World.cell?_alloc_new];have:i=0∨i=1∨i=2:=by omega
  rcases this with rfl | rfl | rfl <;> simp [ae]
end Go.Proofs.YtlmanbjkkjfjgaaGreat
namespace Go.Proofs.YtlmanbjkkjfjgaaGreat.Sym
open Go.Proofs.Tryz
open Go.RowKit
variable {a c d:Int}{j k l m n:Nat}{z:Nat->Int}{t:Rat}{w:World}{v:Value}
def jS (op:UnOp):Op->Option (List Operand)
 | .unOp o _ x=>if o == op then some [x] else none
 | _=>none
def tc:Op->Option (List Operand)
 | .binOp .rem _ x y _=>some [x,y]
 | _=>none
section
variable {P:Program}{Φ:PH}{p q x y:Nat}
theorem lS  (hp:Im Φ p (Ni a)) (hc : -a=c) (hx:Φ x=Ni c) (h1 : -9223372036854775808<=c) (h2:c<=9223372036854775807):aj Φ P ⟨0,[.fact p],[oN x],.quiet (jS .neg)⟩:=λX w ac o xs _ hm ha=>by
 unfold jS at hm;split at hm
 case h_2=>cases hm
 rename_i op t y ho;split at hm
 case isFalse=>cases hm
 rename_i hop;simp only [Option.some.injEq] at hm;subst hm;simp only [beq_iff_eq] at hop;subst hop;have h3:=hp _ _ (ha.1 w (Off.refl _ _));refine ⟨.int .i64 c,w,?_,bH w none,cP (cY c) hx λ_ _=>rfl⟩;subst hc;unfold execOp;simp [ho,h3,Op.unary,Op.intArith,IntWalk.i64_in _ ⟨h1,h2⟩]
theorem DV {b:Int} (hp:Im Φ p (Ni a)) (hb:0<b) (hx:Φ x=Ni c) (hc:Int.tmod a b=c:=by rfl):aj Φ P ⟨0,[.fact p,.lit (Ai b)],[oN x],.quiet tc⟩:=λX w ac o xs _ hm ha=>by
 unfold tc at hm;split at hm
 case h_2=>cases hm
 rename_i t y z yt ho;simp only [Option.some.injEq] at hm;subst hm;subst hc;refine ⟨.int .i64 (Int.tmod a b),w,mZ ho (hp _ _ (ha.1 w (Off.refl _ _))) ha.2.1 ?_,bH w none,cP (cY _) hx λ_ _=>rfl⟩;simp only [binOp];rw [if_neg (by simp)];unfold Op.intDiv;simp only [];rw [if_neg (by omega)];rfl
end
def hN (z:Nat->Int) (m:Nat) (u d:Int):Nat->Int
 | 0=>if m=0 then 0 else z (m-1)
 | j+1=>hN z m u d j*u+z (m-2-j)*d ^ (j+1)
section
variable {Φ:PH}{p q x x1 x2 n0 K i N:Nat}
end
section
variable {Φ:PH}{p r x y kt kn:Nat}{q:Rat}{t t':Int}
end
section
variable {Φ:PH}{p r x y kt kn:Nat}{q:Rat}{t t':Int}
end
theorem Bd.add1 {A B i:Nat} (h:Bd A i) (k:Bd B i):Bd (A+B) (i+1):=by
 unfold Bd at *
 rw [Nat.pow_succ];generalize 4294967296 ^ i=M at *
 omega
theorem Bd.vU {A k:Nat} (h:Bd A k):∀j,Bd (A ^ j) (j*k+1)
 | 0=>by rw [Nat.pow_zero,Nat.zero_mul];show 1<_;decide
 | j+1=>by rw [Nat.pow_succ,Nat.succ_mul,show j*k+k+1=(j*k+1)+k by omega];exact Bd.mul (Bd.vU h j) h
def ev (x:Rat):Nat->(Nat->Int)->Rat
 | 0,_=>0
 | m+1,z=>(z 0:Rat)+x*ev x m (λi=>z (i+1))
def hV (u d:Int):Nat->(Nat->Int)->Int
 | 0,_=>0
 | m+1,z=>z 0*d ^ m+u*hV u d m (λi=>z (i+1))
theorem HP {u d:Int}{x:Rat} (h:x*d=u):∀(m:Nat) (z:Nat->Int),(hV u d m z:Rat)*d=ev x m z*(d:Rat) ^ m
 | 0,z=>by simp [hV,ev]
 | m+1,z=>by have:=HP h m λi=>z (i+1);simp only [hV,ev];push_cast;rw [Rat.pow_succ];grind
theorem BT {x:Rat} (h:x≠0):∀m:Nat,x ^ m≠0
 | 0=>by simp
 | m+1=>by rw [Rat.pow_succ];intro e;have:=BT h m;rcases Rat.mul_eq_zero.1 e with h1 | h1 <;> contradiction
theorem jJ {x:Rat}:∀{m:Nat}{z y:Nat->Int},(∀i,i<m->z i=y i)->ev x m z=ev x m y
 | 0,_,_,_=>rfl
 | m+1,z,y,h=>by simp only [ev];rw [h 0 (by omega),jJ (m:=m) λi _=>h (i+1) (by omega)]
theorem su {x:Rat}:∀{m:Nat}{z:Nat->Int},(∀i,i<m->z i=0)->ev x m z=0
 | 0,_,_=>rfl
 | m+1,z,h=>by simp only [ev];rw [h 0 (by omega),su (m:=m) λi _=>h (i+1) (by omega)];grind
theorem HQ {x:Rat}:∀{n k:Nat}{z:Nat->Int},(∀i,n<=i->i<n+k->z i=0)->ev x (n+k) z=ev x n z
 | 0,k,z,h=>by rw [Nat.zero_add];exact su λi _=>h i (by omega) (by omega)
 | n+1,k,z,h=>by rw [show n+1+k=(n+k)+1 by omega];simp only [ev];rw [HQ (n:=n) λi _ _=>h (i+1) (by omega) (by omega)]
theorem kD {x:Rat} (hn:∀i,n<=i->z i=0) (h:n<=m):ev x m z=ev x n z:=by obtain ⟨k,rfl⟩:=Nat.le.dest h;exact HQ λi h _=>hn i h
theorem HW {x:Rat}:∀(m:Nat) (z:Nat->Int),ev x (m+1) z=ev x m z+x ^ m*z m
 | 0,z=>by simp [ev];grind
 | m+1,z=>by rw [ev,HW m (λi=>z (i+1))];simp only [ev];rw [Rat.pow_succ];grind
theorem mO {x:Rat}:∀(m:Nat) (z y:Nat->Int),ev x m (λi=>z i+y i)=ev x m z+ev x m y
 | 0,_,_=>by simp only [ev];grind
 | m+1,z,y=>by simp only [ev];rw [mO m (λi=>z (i+1)) (λi=>y (i+1))];push_cast;grind
theorem oH {x:Rat} (c:Int):∀(m:Nat) (z:Nat->Int),ev x m (λi=>c*z i)=c*ev x m z
 | 0,_=>by simp [ev]
 | m+1,z=>by simp only [ev];rw [oH c m (λi=>z (i+1))];push_cast;grind
theorem we {x:Rat}{b:Nat}{g:Nat->Int} (hg:∀i,b<=i->g i=0):∀{a:Nat}{f:Nat->Int},(∀i,a<=i->f i=0)->ev x (a+b) (conv f g)=ev x a f*ev x b g
 | 0,f,hf=>by rw [su λi _=>lL (λi=>hf i (by omega)) i];simp [ev]
 | a+1,f,hf=>by
  have h1:=we (x:=x) hg (a:=a) (f:=λi=>f (i+1)) λi _=>hf (i+1) (by omega);have h2:ev x (a+b+1) g=ev x b g:=kD hg (by omega);rw [show a+1+b=(a+b)+1 by omega];have e:(λi=>conv f g (i+1))=λi=>f 0*g (i+1)+conv (λx=>f (x+1)) g i:=rfl
  rw [ev,e,mO (a+b) (λi=>f 0*g (i+1)) (conv (λx=>f (x+1)) g),oH (f 0) (a+b) (λi=>g (i+1)),h1];rw [ev] at h2;simp only [conv,ev];push_cast;grind
theorem Ia {s:Rat} (c:Nat->Int) (u:Int):∀(r i:Nat),ev s r (λk=>c (i+k))=hsum c u r i+(s-u)*ev s (r-1) (λk=>hsum c u (r-1-k) (i+1+k))
 | 0,i=>by simp only [ev,hsum,Nat.zero_sub,Rat.mul_zero];push_cast;grind
 | 1,i=>by simp only [ev,hsum,Nat.sub_self,Rat.mul_zero];push_cast;grind
 | r+2,i=>by
  have h:=Ia (s:=s) c u (r+1) (i+1);rw [ev];have e:(λk=>c (i+(k+1)))=λk=>c (i+1+k):=funext λk=>congrArg c (by omega);rw [e,h,Nat.add_sub_cancel,show r+2-1=r+1 from rfl,show hsum c u (r+2) i=c i+hsum c u (r+1) (i+1)*u from rfl];have e2:(λk=>hsum c u (r+1-(k+1)) (i+1+(k+1)))=λk=>hsum c u (r-k) (i+1+1+k):=funext λk=>by rw [show r+1-(k+1)=r-k by omega,show i+1+(k+1)=i+1+1+k by omega]
  show _=_+(s-u)*(((hsum c u (r+1-0) (i+1+0):Int):Rat)+s*ev s r λk=>hsum c u (r+1-(k+1)) (i+1+(k+1)));rw [e2];simp only [Nat.add_zero,Nat.sub_zero];push_cast;grind
theorem YN  (c:Nat->Int) (u:Int):ev t (j+1) (shS c u m (j+1))+t ^ (j+1)*ev (t+u) (m-(j+1)) (λk=>shS c u m (j+1) (j+1+k))=ev t j (shS c u m j)+t ^ j*ev (t+u) (m-j) (λk=>shS c u m j (j+k)):=by
 rw [HW,Ia (shS c u m j) u (m-j) j];have e1:ev t j (shS c u m (j+1))=ev t j (shS c u m j):=jJ λ_ hi=>by simp only [shS];rw [if_pos hi]
 have e2:shS c u m (j+1) j=hsum (shS c u m j) u (m-j) j:=by simp only [shS];rw [if_neg (by omega)]
 have e3:(λk=>shS c u m (j+1) (j+1+k))=λk=>hsum (shS c u m j) u (m-j-1-k) (j+1+k):=funext λk=>by simp only [shS];rw [if_neg (by omega),show m-(j+1+k)=m-j-1-k by omega]
 rw [e1,e2,e3,show m-(j+1)=m-j-1 by omega,Rat.pow_succ];grind
theorem Ib {t:Rat} (c:Nat->Int) (u:Int){m:Nat}:∀{j},j<=m->ev t j (shS c u m j)+t ^ j*ev (t+u) (m-j) (λk=>shS c u m j (j+k))=ev (t+u) m c
 | 0,_=>by simp [ev,shS];grind
 | j+1,h=>by rw [YN c u,Ib c u (by omega)]
theorem YO  (c:Nat->Int) (u:Int) (m:Nat):ev t m (shS c u m m)=ev (t+u) m c:=by have:=Ib (t:=t) c u (Nat.le_refl m);rw [Nat.sub_self,ev] at this;grind
theorem Ic {x:Rat} (d:Int):∀(m:Nat) (z:Nat->Int),ev x m (λi=>z i*d ^ i)=ev (x*d) m z
 | 0,_=>rfl
 | m+1,z=>by
  simp only [ev];have e:(λi=>z (i+1)*d ^ (i+1))=λi=>d*(z (i+1)*d ^ i):=funext λi=>by rw [Int.pow_succ];grind
  rw [e,oH d m (λi=>z (i+1)*d ^ i),Ic d m (λi=>z (i+1))];simp only [Int.pow_zero];push_cast;grind
theorem Id {y x:Rat}{d:Int} (h:x*d=y):∀(m:Nat) (z:Nat->Int),ev y m (λi=>z i*d ^ (m-1-i))=(d:Rat) ^ (m-1)*ev x m z
 | 0,_=>by simp [ev]
 | 1,z=>by simp [ev]
 | m+2,z=>by
  have h1:=Id h (m+1) (λi=>z (i+1));rw [ev,ev.eq_2 x];have e:(λi=>z (i+1)*d ^ (m+2-1-(i+1)))=λi=>z (i+1)*d ^ (m+1-1-i):=funext λi=>by rw [show m+2-1-(i+1)=m+1-1-i by omega]
  rw [e,h1];rw [show m+2-1=m+1 by omega,Nat.add_sub_cancel,Nat.sub_zero,Rat.pow_succ];push_cast;rw [Rat.pow_succ];grind
theorem BS (x:Rat) (z:Nat->Int) (n:Nat):ev x (tl z n) z=ev x n (upto n z):=by rw [kD (n:=tl z n) (λ_ hi=>mc (h:=hi)) (bg z n)];have:=bg z n;exact jJ λ_ _=>(gm).symm
theorem mP (x:Rat) (z:Nat->Int) (n:Nat):ev x n (upto n z)=ev x n z:=jJ λ_ hi=>gm (h:=hi)
theorem DK (x:Rat) (z:Nat->Int) (n:Nat) (y:Nat->Int) (m:Nat):ev x (mulL z n y m).length (ae (mulL z n y m))=ev x n z*ev x m y:=by have h1:=we (x:=x) (a:=n) (b:=m) (f:=upto n z) (g:=upto m y) (λ_ hi=>lC hi) λi hi=>lC hi;rw [mP,mP] at h1;rw [<- h1,<- kD (x:=x) (λ_ hi=>et hi) (XV z n y m)];exact jJ λi _=>GZ z n y m i
theorem Oi  (hd:d≠0) (t:Rat) (z:Nat->Int) (n:Nat) (u:Int):ev t (mvL z n u d).length (ae (mvL z n u d))=(d:Rat) ^ (tl z n-1)*ev (t+u / d) n z:=by
 have h0:(d:Rat)≠0:=by exact_mod_cast hd
 rw [sv,jJ (y:=λi=>mvS z n u d (tl z n) i*d ^ i) λ_ hi=>wk hi,Ic];unfold mvS;rw [YO];unfold ou;rw [Id (x:=t+u / d) (by grind),BS,mP]
open Go.RowKit Go.ChangeShapes Go.WideShapes Go.ChangeAt
section
variable {Φ:PH}{p x y n0:Nat}
end
theorem ai.re {z:Int}{k:Nat} (h:ai w v z k) (hb:Bd z.natAbs l):ai w v z l:=by obtain ⟨p,c,h1,h2⟩:=h;exact ⟨p,c,h1,h2.1,hb⟩
theorem ah.re {q:Rat}{k:Nat} (h:ah w v q k) (h1:Bd q.num.natAbs l) (h2:Bd q.den l):ah w v q l:=by obtain ⟨p,n,c,b,p',n',c',b',h3,h4,h5⟩:=h;exact ⟨p,n,c,b,p',n',c',b',h3,ai.re h4 h1,ai.re h5 (by rw [Int.natAbs_natCast];exact h2)⟩
theorem ai.zero (w:World) (k:Nat):ai w (.agg #[.slice none 0 0,.bool false]) 0 k:=by refine ⟨none,0,by simp [an,gU],?_,by show (0:Int).natAbs<_;exact Nat.pow_pos (by omega)⟩;simpa [an,gU] using Sl.nil w .i64
def gN (z:Nat->Int) (n:Nat) (u d:Int):Nat->Int
 | 0=>0
 | j+1=>gN z n u d j*u+z (n-1-j)*d ^ j
theorem YP {u:Int}:gN z n u d (j+1)=gN z n u d j*u+z (n-1-j)*d ^ j:=rfl
theorem Ie {w1:World} (g:Kp w w1) (h:Arr 1 (λ_ _ v=>v = .agg #[.int .i64 1]) 1 w v):Arr 1 (λ_ _ v=>v = .agg #[.int .i64 1]) 1 w1 v:=by
 obtain ⟨p,c,rfl,h1⟩:=h;refine ⟨p,c,rfl,λi hi=>?_⟩;obtain ⟨b,off,rfl,l,h2,h3,h4⟩:=h1 i hi;obtain rfl:l = [.int .i64 1]:=by simpa using h4
 refine ⟨b,off,rfl,[.int .i64 1],h2,λj u hj=>?_,h4⟩;have:=h3 j u hj;cases j with
 | succ j=>simp at hj
 | zero=>
  simp only [List.getElem?_cons_zero,Option.some.injEq] at hj;subst hj;exact g.2 _ _ _ (by decide) this
theorem ai.n1 {z:Int}{l:List Value} (h:ai w (.agg l.toArray) (((z:Int):Rat).den:Int) k):∃s,Value.agg ((l.drop 0).take 1).toArray = .agg #[s]∧Arr 1 (λ_ _ v=>v = .agg #[.int .i64 1]) 1 w s:=by
 have h':ai w (.agg l.toArray) 1 k:=h;obtain ⟨p,c,e,-⟩:=id h';have e1:(an 10000 (1:Int).natAbs).length=1:=by decide
 rw [e1] at e;simp only [Value.agg.injEq] at e;have hl:l = [.slice p 1 c,.bool (decide ((1:Int)<0))]:=by have:=congrArg Array.toList e;simpa using this
 subst hl;obtain ⟨blk,off,rfl,hc⟩:=ai.one h';refine ⟨.slice (some ⟨blk,off,none⟩) 1 c,rfl,_,_,rfl,λi hi=>⟨blk,off,rfl,[.int .i64 1],rfl,λj u hj=>?_,rfl⟩⟩;cases j with
 | succ j=>simp at hj
 | zero=>
  simp only [List.getElem?_cons_zero,Option.some.injEq] at hj;subst hj;obtain rfl:i=0:=by omega
  have hc':w.cell? ⟨blk,off,none⟩=some (.int .i64 1):=hc;simpa using hc'
section
variable {P:Program}{Φ:PH}{p q x:Nat}
theorem Ig {T:TypeId}{sz:Nat}{F:PH} (hp:∀w v,Φ p w v->Ptr 1 (λw v=>∃s,v = .agg #[s]∧Arr sz F n w s) w v) (hm':∀w w1 v,Kp w w1->Arr sz F n w v->Arr sz F n w1 v) (hx:Φ x=Arr sz F n) (hT:gV P T=some false:=by kernel_rfl):aj Φ P ⟨0,[.fact p],[oS x],.quiet (aQ T)⟩:=λX w ac o xs _ hm ha=>by
 unfold aQ at hm;split at hm
 case h_2=>cases hm
 rename_i t y ho;split at hm
 case isFalse=>cases hm
 rename_i ht;subst ht;simp only [Option.some.injEq] at hm;subst hm;obtain ⟨b,off,hv,l,h1,h2,s,h3,h4⟩:=hp _ _ (ha.1 w (Off.refl _ _));obtain rfl:l = [s]:=by simpa using h3
 have hc:=h2 0 _ rfl;rw [Nat.add_zero] at hc;obtain ⟨p',c',rfl,h5⟩:=id h4;refine ⟨_,w,?_,bH w none,cP ⟨⟨_,_,_,rfl⟩,λ_ h=>by cases h⟩ hx λ_ hw=>hm' _ _ _ hw.1 h4⟩;unfold execOp;simp [ho,hv,Instr.loadAt,Instr.sureAddr,loadVar,gW hT,hc]
end
section
variable {Φ:PH}{p q x x1 x2 kr kk i:Nat}{r:Rat}
theorem YQ {z t:Int} (hp:Im Φ p (Jw z i)) (hx:Φ x=Ni t) (ht:cK z 0=t:=by rfl):aj Φ prog ⟨70,[.fact p],[oN x],false⟩:=
 gC λ_ _ _ h0=>(Ih (hp _ _ (get h0))).mono λ_ _ h=>yy hx (ht▸h)
end
def yA (z:Nat->Int) (n k:Nat):List WP:=[Rw 4 (Zf z k) n,Nz n]
def YR (z:Nat->Int) (k:Nat) (j:Nat):List WP:=[Nz j,Ptr 4 (Dw (((z j:Int):Rat)) k),Ptr 2 (Jw ((((z j:Int):Rat)).den:Int) k),λw v=>Ptr 1 (λw v=>∃s,v = .agg #[s]∧Arr 1 (λ_ _ v=>v = .agg #[.int .i64 1]) 1 w s) w v,λw v=>Arr 1 (λ_ _ v=>v = .agg #[.int .i64 1]) 1 w v,Nz 1,Ptr 4 (Dw (((z j:Int):Rat)) k),Ptr 2 (Jw ((((z j:Int):Rat)).den:Int) k),λw v=>Ptr 1 (λw v=>∃s,v = .agg #[s]∧Arr 1 (λ_ _ v=>v = .agg #[.int .i64 1]) 1 w s) w v,λw v=>Arr 1 (λ_ _ v=>v = .agg #[.int .i64 1]) 1 w v,λw v=>Ptr 1 (λ_ v=>v = .agg #[.int .i64 1]) w v,Ni (1:Int),Nz (j+1)]
def YS:bp:=⟨[0,2,4,5],[(.slot 6,.i)],[(.one 0,2)],[.closed (.one (Ai 0))],2,[]⟩
def Ii:List Step:=[bQ [2,1] oT (am .lss),bQ [0,2] [oP 3] (adK 38),bQ [3] [oP 4] (ce 57 1),bQ [4] [oP 5] (ce 55 0),bQ [5] [oS 6] (aQ 53),bQ [6] [oN 7] (aC 53),bQ [7,.lit (Ai 1)] oF (am .neq),bQ [0,2] [oP 8] (adK 38),bQ [8] [oP 9] (ce 57 1),bQ [9] [oP 10] (ce 55 0),bQ [10] [oS 11] (aQ 53),bQ [11,.lit (Ai 0)] [oP 12] (adK 53),bQ [12] [oN 13] (aQ 3),bQ [13,.lit (Ai 1)] oF (am .neq),bQ [2,.lit (Ai 1)] [oN 14] (am .add)]
def YT:List Step:=[bQ [2,1] oF (am .lss)]
def YU:List Step:=[bQ [0] [oN 1] (aC 38),.loop YS [(Ii,[.frm 14])] YT]
def YV:List Out:=[oS 0]
theorem YW  (hn:n<=1000000):aj (ph (yA z n k)) prog ⟨131,[0],oT,false⟩:=adL YV oT YU func131 (by kernel_rfl) (lB (aM (F:=(Zf z k)) underlying38 ad rfl) (bN (counted n (λj=>ph (yA z n k ++ YR z k j)) (λ_=>0) (λ_ p hp=>bO (show p<(yA z n k).length from hp)) ⟨λ_=>rfl,trivial⟩ (λj _=>by
   skip
   exact ⟨(Ii,[.frm 14]),rfl,⟨ad,trivial⟩,(lB (bK ad ad) (lB (bw (i:=j) (F:=(Zf z k)) underlying38 ad ad rfl) (lB (cf (off:=2) (len:=2) (sz:=4) (F:=Dw (((z j:Int):Rat)) k) (G:=Jw ((((z j:Int):Rat)).den:Int) k) ad (λ_ _ h=>ah.snd' h) rfl) (lB (cf (off:=0) (len:=1) (sz:=2) (F:=Jw ((((z j:Int):Rat)).den:Int) k) (G:=λw v=>∃s,v = .agg #[s]∧Arr 1 (λ_ _ v=>v = .agg #[.int .i64 1]) 1 w s) ad (λ_ _ h=>ai.n1 h) rfl) (lB (Ig ad (λ_ _ _ g h=>Ie g h) rfl) (lB (lF (sz:=1) (n:=1) (F:=(λ_ _ v=>v = .agg #[.int .i64 1])) underlying53 ad rfl) (lB (cn (op:=.neq) ad (bz (rfl) (by simp))) (lB (bw (i:=j) (F:=(Zf z k)) underlying38 ad ad rfl) (lB (cf (off:=2) (len:=2) (sz:=4) (F:=Dw (((z j:Int):Rat)) k) (G:=Jw ((((z j:Int):Rat)).den:Int) k) ad (λ_ _ h=>ah.snd' h) rfl) (lB (cf (off:=0) (len:=1) (sz:=2) (F:=Jw ((((z j:Int):Rat)).den:Int) k) (G:=λw v=>∃s,v = .agg #[s]∧Arr 1 (λ_ _ v=>v = .agg #[.int .i64 1]) 1 w s) ad (λ_ _ h=>ai.n1 h) rfl) (lB (Ig ad (λ_ _ _ g h=>Ie g h) rfl) (lB (eg 0 (sz:=1) (n:=1) (F:=(λ_ _ v=>v = .agg #[.int .i64 1])) underlying53 ad rfl rfl) (lB (ym ad rfl) (lB (cn (op:=.neq) ad (bz (rfl) (by simp))) (lB (ch ad rfl) au)))))))))))))))⟩) (lB (tlF ad ad) au)
   poN) au))
  (aP [.fact 0 (.one (.s))] ⟨Rw.Is 4 (Zf z k) n,trivial⟩) aV
section
variable {Φ:PH}{p q x kr kk:Nat}{r:Rat}
theorem YX (hp:Im Φ p (Rw 4 (Zf z k) n)) (hn:n<=1000000:=by omega):aj Φ prog ⟨131,[.fact p],oT,false⟩:=
 aU (YW hn) ⟨hp,trivial⟩ ⟨⟨rfl,trivial⟩,trivial⟩
end
def yB (z:Nat->Int) (n k:Nat) (r:Rat) (kr kk:Nat):List WP:=[Rw 4 (Zf z k) n,Dw r kr,Jw r.num kr,Jw ((r.den:Nat):Int) kr,Jw (1:Int) 2,Nz n,Ni (((n:Nat):Int)-1),Jw (gN z n r.num ((r.den:Nat):Int) n) kk,Ni (cK (gN z n r.num ((r.den:Nat):Int) n) 0)]
def YY (z:Nat->Int) (n k:Nat) (r:Rat) (kr kk:Nat) (j:Nat):List WP:=[Ni (((n:Nat):Int)-1-((j:Nat):Int)),Jw (gN z n r.num ((r.den:Nat):Int) j) kk,Jw (((r.den:Nat):Int) ^ j) kk,Jw ((gN z n r.num ((r.den:Nat):Int) j)*r.num) (kk+kr),Ptr 4 (Dw (((z (n-1-j):Int):Rat)) k),Ptr 2 (Jw ((((z (n-1-j):Int):Rat)).num) k),Jw ((((z (n-1-j):Int):Rat)).num) k,Jw (((((z (n-1-j):Int):Rat)).num)*(((r.den:Nat):Int) ^ j)) (k+kk),Jw (((gN z n r.num ((r.den:Nat):Int) j)*r.num)+(((((z (n-1-j):Int):Rat)).num)*(((r.den:Nat):Int) ^ j))) ((kk+kr)+(k+kk)+1),Jw ((((r.den:Nat):Int) ^ j)*((r.den:Nat):Int)) (kk+kr),Ni ((((n:Nat):Int)-1-((j:Nat):Int))-1)]
def Ij:bp:=⟨[0,1,3,4,5,6,8,9,10,16,17,18,19],[(.slot 7,.i),(.cell 6 0,.s),(.cell 6 1,.b),(.cell 8 0,.s),(.cell 8 1,.b)],[(.one 0,9),(.agg [1,2],10),(.agg [3,4],11)],[.frm 6,.closed (.agg [.nl,.cb false]),.frm 4],9,[(10,7)]⟩
def Ik:List Step:=[bQ [9,.lit (Ai 0)] oT (am .geq),
   cB 26 [10,2] [oD 12],bQ [0,9] [oP 13] (adK 38),bQ [13] [oP 14] (ce 57 0),bQ [14] [oD 15] (aQ 55),
   cB 26 [15,11] [oD 16],
   cB 66 [12,16] [oD 17],
   cB 26 [11,3] [oD 18],bQ [9,.lit (Ai 1)] [oN 19] (am .sub)]
def YZ:List Step:=[bQ [9,.lit (Ai 0)] oF (am .geq)]
def Zb:List Step:=[cB 131 [0] oT,
   cB 24 [.lit (Ai 1)] [oD 4],bQ [0] [oN 5] (aC 38),bQ [5,.lit (Ai 1)] [oN 6] (am .sub),.loop Ij [(Ik,[.frm 19,.frm 17,.frm 18])] YZ,
   cB 70 [7] [oN 8]]
def Zc:List Out:=[oS 0,⟨.agg [.s,.b,.s,.b],[(0,0,1),(0,2,2),(2,2,3)]⟩]
theorem Zd {r:Rat}{kr kk:Nat} (hn:n<=1000000) (hk:k<=10000) (hkr:kr<=1000) (hkk:kk<=1000) (hB:∀j,j<=n->Bd (gN z n r.num ((r.den:Nat):Int) j).natAbs kk∧Bd (((r.den:Nat):Int) ^ j).natAbs kk):aj (ph (yB z n k r kr kk)) prog ⟨92,[0,1],[oN 8],false⟩:=adL Zc [oN 8] Zb func92 (by kernel_rfl) (lB (YX ad) (lB (fP (z:=1) rfl rfl) (lB (aM (F:=(Zf z k)) underlying38 ad rfl) (lB (cO ad (hc:=(rfl)) rfl) (bN (counted n (λj=>ph (yB z n k r kr kk ++ YY z n k r kr kk j)) (λ_=>0) (λ_ p hp=>bO (show p<(yB z n k r kr kk).length from hp)) ⟨λ_ _ h=>h.trans (congrArg (Value.int .i64) (by omega)),λw=>ai.zero w kk,λ_ _ h=>ai.re (h.eI (by rw [Int.pow_zero])) (hB 0 (by omega)).2,trivial⟩ (λj _=>by
   skip
   exact ⟨(Ik,[.frm 19,.frm 17,.frm 18]),rfl,⟨λ_ _ h=>h.trans (congrArg (Value.int .i64) (by omega)),λ_ _ h=>ai.re (ai.eI (y:=gN z n r.num ((r.den:Nat):Int) (j+1)) h rfl) (hB (j+1) (by omega)).1,λ_ _ h=>ai.re (h.eI (by rw [Int.pow_succ])) (hB (j+1) (by omega)).2,trivial⟩,(lB (WY ad) (lB (dE dD dD rfl rfl) (lB (bw (i:=(n-1-j)) (F:=(Zf z k)) underlying38 ad (λ_ _ h=>h.trans (congrArg (Value.int .i64) (by omega))) rfl) (lB (cf (off:=0) (len:=2) (sz:=4) (F:=Dw (((z (n-1-j):Int):Rat)) k) (G:=Jw ((((z (n-1-j):Int):Rat)).num) k) ad (λ_ _ h=>ah.fst' h) rfl) (lB (bT (sz:=2) (F:=Jw ((((z (n-1-j):Int):Rat)).num) k) ad (λ_ _ _ g h=>ai.kp h g) (λ_ _ h=>ai.is h) rfl) (lB (dE dD dD rfl rfl) (lB (yC dD dD rfl rfl) (lB (dE dD dD rfl rfl) (lB (cO ad (hc:=(rfl)) rfl) au)))))))))⟩) (lB (chF ad) au)
   (poC (λ_ _ h=>(λh=>h) h) poN)) (lB (YQ dD rfl) au))))))
  (aP [.fact 0 (.one (.s)),.sub 1 (.agg [.s,.b,.s,.b]) [(0,2,2),(2,2,3)]] ⟨Rw.Is 4 (Zf z k) n,⟨λ_ _ h=>ah.is h,λ_ _ h=>ah.fst h,λ_ _ h=>ah.snd h,trivial⟩,trivial⟩) aV
section
variable {Φ:PH}{p q x x1 x2 y kr kk kt kn:Nat}{r:Rat}
theorem yD (hp:Im Φ p (Rw 4 (Zf z k) n)) (hq:Im Φ q (Dw r kr)) (hx:Φ x=Ni (cK (gN z n r.num ((r.den:Nat):Int) n) 0)) (hB:∀j,j<=n->Bd (gN z n r.num ((r.den:Nat):Int) j).natAbs kk∧Bd (((r.den:Nat):Int) ^ j).natAbs kk) (hn:n<=1000000:=by omega) (hk:k<=10000:=by omega) (hkr:kr<=1000:=by omega) (hkk:kk<=1000:=by omega):aj Φ prog ⟨92,[.fact p,.fact q],[oN x],false⟩:=
 aU (Zd hn hk hkr hkk hB) ⟨hp,hq,trivial⟩ ⟨⟨rfl,⟨rfl,rfl,λ_ _ h=>hx▸h⟩,trivial⟩,trivial⟩
end
end Go.Proofs.YtlmanbjkkjfjgaaGreat.Sym
namespace Go.Proofs.YtlmanbjkkjfjgaaGreat
open Go.Proofs.Tryz
open Go.RowKit
variable {w:World}{B:Nat}{v:Value}{z:Int}
theorem fN.mono {B':Nat} (h:fN w B v z) (hB:B'<=B):fN w B' v z:=by obtain ⟨p,cap,h1,h2⟩:=h;exact ⟨p,cap,h1,h2.mono hB⟩
theorem fN.lt {u:Value} (h:fN w B (.agg #[u,v]) z):∀g,v.ownBlock=some g->B<=g∧g<w.heap.size:=by obtain ⟨p,cap,h1,h2⟩:=h;simp only [Value.agg.injEq,Array.mk.injEq,List.cons.injEq,and_true] at h1;rw [h1.2];exact h2.lt
theorem aD.bd {k:Nat} (h:aD w v z k):Bd z.natAbs k:=by obtain ⟨b,s,X,rfl,h2,rfl⟩:=h;rw [eO];exact h2.bd
end Go.Proofs.YtlmanbjkkjfjgaaGreat
namespace Go.Proofs.YtlmanbjkkjfjgaaGreat.Sym
open Go.Proofs.Tryz
open Go.RowKit
variable {k kd n:Nat}{y z:Nat->Int}{d:Int}
def fq (v:Int) (n:Nat):Nat:=(if v.tmod n<0 then v.tmod n+n else v.tmod n).toNat
theorem Bm (v:Int) (hn:1<=n):v.tmod n<n ∧ -(n:Int)<v.tmod n:=by
 refine ⟨Int.tmod_lt_of_pos v (show (0:Int)<n by omega),?_⟩;rcases Int.le_total 0 v with h | h
 ·have:=Int.tmod_nonneg (b:=(n:Int)) h;omega
 ·have e:=Int.neg_tmod (a:=-v) (b:=(n:Int));rw [Int.neg_neg] at e;have:=Int.tmod_lt_of_pos (-v) (show (0:Int)<n by omega);omega
theorem sj (v:Int) (hn:1<=n:=by omega):fq v n<n:=by obtain ⟨t,t2⟩:=Bm v hn;unfold fq;split <;> omega
theorem NK (v:Int) (n:Nat) (w:World) (hn:1<=n) (hn2:n<=1000000) :
  Calls prog 7 #[.int .i64 v,.int .i64 n] w λe w'=>e = .returned (.int .i64 (fq v n))∧w=w':=by
 have h1:¬(n:Int)<1:=by omega
 have h2:(1:Int)<=(n:Int):=by omega
 obtain ⟨t,t2⟩:=Bm v hn;by_cases hk:v.tmod n<0
 ·have E:Hid ((fq v n:Int)=v.tmod n+n):=Lib.hid (by unfold fq;rw [if_pos hk];omega);go_enter func7,ntmps7
  go_wp2
  go_ret
  exact ⟨gT (by rw [E.out]),rfl⟩
 ·have E:Hid ((fq v n:Int)=v.tmod n):=Lib.hid (by unfold fq;rw [if_neg hk];omega);go_enter func7,ntmps7
  go_wp2
  go_ret
  exact ⟨gT (by rw [E.out]),rfl⟩
def z2 (a b:Int):Nat->Int
 | 0=>a
 | _=>b
section
variable {Φ:PH}{p q x x1 x2 j i K:Nat}{a b t z y m:Int}
theorem Bn {ni:Int} (hn:(n:Int)=ni) (hp:Im Φ p (Ni m)) (hw:fq m n=k) (hx:Φ x=Ni (k:Int)) (h1:1<=n:=by omega) (h2:n<=1000000:=by omega):aj Φ prog ⟨7,[.fact p,.lit (Ai ni)],[oN x],false⟩:=fe λX w v u g1 g2=>by
 subst hn;rw [hp _ _ (get g1)];have h3:u = .int .i64 (n:Int):=g2;subst h3;refine (NK m n w h1 h2).mono λe w' h=>?_;obtain ⟨rfl,rfl⟩:=h;rw [hw];exact ⟨bH _ _,[_],rfl,⟨⟨⟨_,rfl⟩,λ_ h=>by cases h⟩,λ_ hq w1 _=>by
  simp only [List.mem_singleton] at hq;subst hq;show Φ x w1 _;rw [hx];rfl⟩,trivial⟩
end
theorem Bo {c:Nat->Int}{u:Int}{K ku m:Nat} (hc:∀i,i<m->Bd (c i).natAbs K) (hu:Bd u.natAbs ku):∀r i,i+r<=m->Bd (hsum c u r i).natAbs (K+r*(ku+1))
 | 0,_,_=>by simp only [hsum];exact Nat.pow_pos (by omega)
 | r+1,i,h=>by have h1:=Bd.mul (Bo hc hu r (i+1) (by omega)) hu;have h2:=Bd.add1 ((hc i (by omega)).more (j:=K+r*(ku+1)+ku) (by omega)) h1;rw [<- Int.natAbs_mul] at h2;simp only [hsum];refine (h2.le (Int.natAbs_add_le _ _)).more ?_;rw [Nat.succ_mul];omega
theorem vT {c:Nat->Int}{u:Int}{K ku m:Nat} (hc:∀i,i<m->Bd (c i).natAbs K) (hu:Bd u.natAbs ku):∀j i,i<m->Bd (shS c u m j i).natAbs (K+j*(m*(ku+1)))
 | 0,i,hi=>by simp only [shS];exact (hc i hi).more (by omega)
 | j+1,i,hi=>by
  have e:(j+1)*(m*(ku+1))=j*(m*(ku+1))+m*(ku+1):=Nat.succ_mul _ _;simp only [shS];split
  ·exact (vT hc hu j i hi).more (by omega)
  ·refine (Bo (vT hc hu j) hu (m-i) i (by omega)).more ?_;have:=Nat.mul_le_mul_right (ku+1) (show m-i<=m by omega);omega
theorem NM  (hz:∀i,i<tl z n->Bd (z i).natAbs k) (hd:Bd d.natAbs kd) (i:Nat) (hi:i<tl z n):Bd (ou z n d i).natAbs (k+(tl z n*kd+1)):=by unfold ou;rw [Int.natAbs_mul,Int.natAbs_pow];refine (Bd.mul (hz i hi) (Bd.vU hd _)).more ?_;have:=Nat.mul_le_mul_right kd (show tl z n-1-i<=tl z n by omega);omega
theorem NN {u:Int}{ku:Nat} (hz:∀i,i<tl z n->Bd (z i).natAbs k) (hd:Bd d.natAbs kd) (hu:Bd u.natAbs ku) (j a:Nat) (ha:a<tl z n):Bd (mvS z n u d j a).natAbs (k+(tl z n*kd+1)+j*(tl z n*(ku+1))):=
 vT (NM hz hd) hu j a ha
theorem Bp (k:Nat):Bd (0:Int).natAbs k:=Nat.pow_pos (by omega)
theorem NO {m k':Nat} (hz:∀i,i<n->Bd (z i).natAbs k) (hy:∀i,i<m->Bd (y i).natAbs k') (i:Nat):Bd (ae (mulL z n y m) i).natAbs (k+k'+n):=by
 unfold mulL;split
 ·rw [et (by simp)];exact Bp _
 ·rw [cU];split
  ·have h1:=bg z n;have h2:=bg y m;exact (vV (c:=n) hz (λi _=>hy i (by omega)) h1 h1 i).more (by omega)
  ·exact Bp _
theorem Br (x:Rat) (n:Nat) (z:Nat->Int):ev x (aw (mk n z)).length (ae (aw (mk n z)))=ev x n z:=by rw [<- kD (x:=x) (m:=n) (λ_ hi=>et hi) (by rw [fF];exact bg _ _)];exact jJ λ_ hi=>by rw [ig,cU,if_pos hi]
def cS:cC:=.agg [.s,.s,.b,.s]
section
variable {Φ:PH}
end
section
variable {Φ:PH}
end
section
variable {Φ:PH}
end
def aE {α:Type} (a b:α):Nat->α
 | 0=>a
 | _+1=>b
def cJ (zz:Nat->Nat->Int) (ln:Nat->Nat) (d:Int) (i:Nat):Int:=if i<(bj zz ln 2).length then ae (bj zz ln 2) i else d
section
variable {zz:Nat->Nat->Int}{ln:Nat->Nat}{x:Nat->Int}{nx ny i:Nat}
theorem sk (h:i<(bj zz ln 2).length):ae (bj zz ln 2) i=cJ zz ln d i:=(if_pos h).symm
theorem qe:d=cJ zz ln d (bj zz ln 2).length:=(if_neg (Nat.lt_irrefl _)).symm
theorem vW:((aT (cJ zz ln d) ((bj zz ln 2).length+1):Nat):Int)∣d:=by have:=jK (z:=cJ zz ln d) (n:=(bj zz ln 2).length+1) (bj zz ln 2).length (by omega);rw [<- qe] at this;exact this
theorem sm (h:d≠0):((aT (cJ zz ln d) ((bj zz ln 2).length+1):Nat):Int)≠0:=λe=>by have:=vW (zz:=zz) (ln:=ln) (d:=d);rw [e] at this;exact h (Int.zero_dvd.1 this)
theorem vY:bj (aE x y) (aE nx ny) 2=mk nx x ++ mk ny y:=rfl
theorem kE:(bj (aE x y) (aE nx ny) 2).length=nx+ny:=by rw [vY,List.length_append,dc,dc]
theorem Bs (x y:Nat->Int):∀{j:Nat},j<=2->(bj (aE x y) (aE nx ny) j).length<=nx+ny
 | 0,_=>Nat.zero_le _
 | 1,_=>by rw [sd,show (bj (aE x y) (aE nx ny) 0).length=0 from rfl,Nat.zero_add];exact Nat.le_add_right nx ny
 | 2,_=>Nat.le_of_eq kE
theorem vZ (h:i<nx:=by omega):cJ (aE x y) (aE nx ny) d i=x i:=by rw [<- sk (by rw [kE];omega),vY,se,dc,if_pos h,cU,if_pos h]
theorem wa (h:i<ny:=by omega):cJ (aE x y) (aE nx ny) d (nx+i)=y i:=by rw [<- sk (by rw [kE];omega),vY,se,dc,if_neg (by omega),Nat.add_sub_cancel_left,cU,if_pos h]
theorem Bu (h:i<nx):((aT (cJ (aE x y) (aE nx ny) d) ((bj (aE x y) (aE nx ny) 2).length+1):Nat):Int)∣x i:=by
 have:=jK (z:=cJ (aE x y) (aE nx ny) d) (n:=(bj (aE x y) (aE nx ny) 2).length+1) i (by rw [kE];omega)
 rwa [vZ (h:=h)] at this
theorem Bv (h:i<ny):((aT (cJ (aE x y) (aE nx ny) d) ((bj (aE x y) (aE nx ny) 2).length+1):Nat):Int)∣y i:=by
 have:=jK (z:=cJ (aE x y) (aE nx ny) d) (n:=(bj (aE x y) (aE nx ny) 2).length+1) (nx+i) (by rw [kE];omega)
 rwa [wa (h:=h)] at this
end
section
variable {Φ:PH}{p q x m j:Nat}{zz:Nat->Nat->Int}{ln:Nat->Nat}
theorem Bw {J:List Nat} (h0:Im Φ p (Rw 2 (If z k) n)) (h1:Im Φ q (Rw 2 (If y k) m)) (hx:Φ x=Rw 1 (je (aE z y) (aE n m) k) 2):aj Φ prog ⟨0,[.any,.fact p,.fact q],[oS x],.fresh J (dl 110 2)⟩:=
 fM (ps:=[p,q]) (sz:=1) (zc:=.one .nl) underlying110 rfl (λi _ h w v hv=>by
  match i,h with
  | 0,h=>
   obtain rfl:=Option.some.inj h;have:=AI (h0 w v hv);rw [this];exact ⟨rfl,v,rfl,h0 w v hv⟩
  | 1,h=>
   obtain rfl:=Option.some.inj h;have:=AI (h1 w v hv);rw [this];exact ⟨rfl,v,rfl,h1 w v hv⟩
  | i+2,h=>simp at h) hx
theorem Bz (hp:Im Φ p (Rw 1 (je zz ln k) n)) (hx:Φ x=aA 2 28 (If (ae (bj zz ln n)) k) (bj zz ln n).length) (hs:∀j,j<=n->(bj zz ln j).length<=1000000) (hn:n<=1000:=by omega):aj Φ prog ⟨104,[.fact p],[oS x],.eM [] j⟩:=
 jF (ME hn hs) ⟨hp,trivial⟩ ⟨⟨rfl,⟨rfl,rfl,λ_ _ h=>hx▸h⟩,trivial⟩,trivial⟩
theorem ak.pos {w:World}{v:Value}{k:Nat} (h:ak w v d k) (hd:0<d):(cC.agg [.lit (.cb false),.s]).is v:=by obtain ⟨s,n,c,rfl⟩:=BD h;exact ⟨[_,_],rfl,by rw [decide_eq_false (by omega)];rfl,⟨_,_,_,rfl⟩,trivial⟩
end
section
variable {Φ:PH}{p x:Nat}
end
section
variable {Φ:PH}{p q r s x ku kk K1 K2 K3 kp:Nat}{u:Int}{M L:List Int}
end
def wb (z:Nat->Int) (n k l:Nat) (c:Int) (Z:List Int):List WP:=[Rw 2 (If z k) n,Iw c l,aA 2 28 (Nf (ae Z) k) Z.length,fb Z.length,Ni ((Z.length:Nat):Int),aA 2 28 (Nf (eP (ae Z) c Z.length) k) Z.length]
def NP (k:Nat) (c:Int) (Z:List Int) (j:Nat):List WP:=[Nz j,aA 2 28 (Nf (eP (ae Z) c j) k) Z.length,λ_ _=>True,At 2,Ptr 2 (Nw ((eP (ae Z) c j) j) k),Nw ((eP (ae Z) c j) j) k,Nw (((eP (ae Z) c j) j) / c) k,At 2,Ptr 2 (Nw ((eP (ae Z) c j) j) k),aA 2 28 (Nf (eP (ae Z) c (j+1)) k) Z.length,Nz (j+1)]
def BE:bp:=⟨[0,1,3,4,7,8,9,10],[(.slot 11,.i),(.slot 5,.s)],[(.one 0,6),(.one 1,.cM [1] 7),(.one 1,.lo 1)],[.closed (.one (Ai 0)),.frm 2,.frm 0],6,[(7,5)]⟩
def BF:List Step:=[bQ [6,4] oT (am .lss),.base ⟨0,[7,6],[oP 10],.joint [1] 9 (adK 25)⟩,.base ⟨0,[10],[oI 11],.jj [1] (aQ 28)⟩,.base ⟨106,[11,1],[oI 12,oL (Ai 0)],true⟩,.base ⟨0,[7,6],[oP 14],.joint [1] 13 (adK 25)⟩,.base ⟨0,[7,6,.any,12],[oS 15],.put [] 1 0 13 (fE 28 (.tmp 15) (.tmp 16))⟩,bQ [6,.lit (Ai 1)] [oN 16] (am .add)]
def NQ:List Step:=[bQ [6,4] oF (am .lss)]
def NR:List Step:=[.base ⟨67,[0],[oS 2],.eM [] 1⟩,.freed (.one (.s 4 0)) 2 3,bQ [3] [oN 4] (aC 25),.loop BE [(BF,[.frm 16,.frm 15,.frm 0])] NQ]
def NS:List Out:=[oS 0,oI 1]
theorem NT {l:Nat}{c:Int}{Z:List Int} (hn:n<=1000000) (hk:k<=400000) (hl:l<=400000) (hZ:aw (mk n z)=Z) (hc:0<Z.length->c≠0) (hd:∀i,i<Z.length->c∣ae Z i):aj (ph (wb z n k l c Z)) prog ⟨107,[0,1],[oS 5],false⟩:=by
 have hZl:Z.length<=n:=by rw [<- hZ,fF];exact bg _ _
 exact adL NS [oS 5] NR func107 (by kernel_rfl) (lB (NU (Rw.To 2 (If z k) n (λ_ _ _ _ h=>h)) rfl hZ) (gu (mM (e:=28) (sz:=2) (n:=Z.length) (F:=(Nf (ae Z) k)) ad rfl) (lB (eH (n:=Z.length) underlying25 ad rfl) (bN (counted Z.length (λj=>ph (wb z n k l c Z ++ NP k c Z j)) (λ_=>0) (λ_ p hp=>bO (show p<(wb z n k l c Z).length from hp)) ⟨λ_=>rfl,λ_ _ h=>aA.to (sz:=2) (e:=28) (n:=Z.length) (F:=λι w v=>ak w v (ae Z ι) k) (G:=λι w v=>ak w v (eP (ae Z) c 0 ι) k) h λ_ _ _ _ h=>by rw [NV];exact h,bI,trivial⟩ (λj hj=>by
   skip
   exact ⟨(BF,[.frm 16,.frm 15,.frm 0]),rfl,⟨ad,ad,bI,trivial⟩,(lB (bK ad ad) (lB (fO (i:=j) (sz:=2) (n:=Z.length) (F:=(Nf (eP (ae Z) c j) k)) underlying25 (λ_ _ h=>aA.arr h) ad rfl rfl) (lB (mN (sz:=2) (F:=Nw ((eP (ae Z) c j) j) k) ad (λ_ _ _ g h=>ak.kp h g) (λ_ _ h=>ak.is h) rfl) (lB (wd nI iI rfl (hc (by omega)) (by rw [BH];exact hd j hj) rfl) (lB (fO (i:=j) (sz:=2) (n:=Z.length) (F:=(Nf (eP (ae Z) c j) k)) underlying25 (λ_ _ h=>aA.arr h) ad rfl rfl) (lB (ij (i:=j) (n:=Z.length) (F:=(λι w v=>ak w v ((eP (ae Z) c j) ι) k)) (F':=(λι w v=>ak w v ((eP (ae Z) c (j+1)) ι) k)) (G:=Nw (((eP (ae Z) c j) j) / c) k) (.tmp 15) (.tmp 16) ad ad ad rfl (λ_ _ h=>ak.cells h) (λ_ _ _ _ g h=>ak.kp h g) (λ_ _ _ g h=>ak.kp h g) (λ_ _ _ ha h=>by rw [NW ha];exact h) (λ_ _ h=>h.eq NX) rfl) (lB (ch ad rfl) au)))))))⟩) (lB (tlF ad ad) au)
   (poC (λ_ _ h=>(λh=>h) h) poN)) au))))
  (aP [.fact 0 (.one (.s)),.fact 1 (.agg [.b,.s])] ⟨Rw.Is 2 (If z k) n,λ_ _ h=>aD.is h,trivial⟩) aV
section
variable {Φ:PH}{p q x l:Nat}{c:Int}{L:List Int}
theorem sn (hp:Im Φ p (Rw 2 (If z k) n)) (hq:Im Φ q (Iw c l)) (hx:Φ x=Rw 2 (Nf (ae L) k) L.length) (hc:0<tl z n->c≠0) (hd:∀i,i<tl z n->c∣z i) (hL:dvL z n c=L) (hn:n<=1000000:=by omega) (hk:k<=400000:=by omega) (hl:l<=400000:=by omega):aj Φ prog ⟨107,[.fact p,.fact q],[oS x],false⟩:=by
 have hT:(aw (mk n z)).length=tl z n:=fF n z;have hZ:∀i,i<tl z n->ae (aw (mk n z)) i=z i:=λi hi=>by have:=bg z n;rw [ig,cU,if_pos (by omega)]
 refine aU (NT (c:=c) (l:=l) (Z:=aw (mk n z)) hn hk hl rfl (by rw [hT];exact hc) (λi hi=>by rw [hT] at hi;rw [hZ i hi];exact hd i hi)) ⟨hp,hq,trivial⟩ ⟨⟨rfl,⟨rfl,rfl,λ_ _ h=>?_⟩,trivial⟩,trivial⟩;rw [hx,<- hL,dvL,dc,<- hT];exact Rw.to (sz:=2) (n:=(aw (mk n z)).length) (F:=Nf (eP (ae (aw (mk n z))) c (aw (mk n z)).length) k) (aA.rw (e:=28) h) λi _ _ hi h=>h.eq (by
  rw [eP,if_pos hi,cU,if_pos hi,hZ i (hT▸hi)])
end
def NY (x y:Nat->Int) (nx ny k:Nat) (d:Int) (X Y:List Int):List WP:=[Rw 2 (If x k) nx,Rw 2 (If y k) ny,Nw d k,Rw 1 (je (aE x y) (aE nx ny) k) 2,aA 2 28 (If (ae (bj (aE x y) (aE nx ny) 2)) k) ((bj (aE x y) (aE nx ny) 2).length),aA 2 28 (If (cJ (aE x y) (aE nx ny) d) k) ((bj (aE x y) (aE nx ny) 2).length+1),Nw (aT (cJ (aE x y) (aE nx ny) d) ((bj (aE x y) (aE nx ny) 2).length+1):Int) k,Nw (d / (aT (cJ (aE x y) (aE nx ny) d) ((bj (aE x y) (aE nx ny) 2).length+1):Int)) k,Rw 2 (Nf (ae X) k) X.length,Rw 2 (Nf (ae Y) k) Y.length]
def NZ:List Step:=[.base ⟨0,[.any,0,1],[oS 3],.fresh [] (dl 110 2)⟩,.base ⟨104,[3],[oS 4],.eM [] 1⟩,.base ⟨0,[4,.row 2 [2]],[oS 5],.loose [] 1 0 (cA 25 25)⟩,.base ⟨103,[5],[oI 6],.dR [1] false⟩,.base ⟨106,[2,6],[oI 7,oL (Ai 0)],.dR [1] true⟩,.base ⟨107,[0,6],[oS 8],.dR [1] false⟩,.base ⟨107,[1,6],[oS 9],.dR [1] false⟩]
def Oe:List Out:=[oS 0,oS 1,⟨.agg [.lit (.cb false),.s],[(0,0,2)]⟩]
theorem Of {x:Nat->Int}{nx ny:Nat}{X Y:List Int} (hx:nx<=400000) (hy:ny<=400000) (hk:k<=400000) (hX:dvL x nx ((aT (cJ (aE x y) (aE nx ny) d) ((bj (aE x y) (aE nx ny) 2).length+1):Nat):Int)=X) (hY:dvL y ny ((aT (cJ (aE x y) (aE nx ny) d) ((bj (aE x y) (aE nx ny) 2).length+1):Nat):Int)=Y) (hd:d≠0:=by omega):aj (ph (NY x y nx ny k d X Y)) prog ⟨65,[0,1,.parts (.agg [.lit (.cb false),.s]) [(0,0,2)]],[⟨.agg [.s,.s,.b,.s],[(0,1,8),(1,1,9),(2,2,7)]⟩],false⟩:=by
 have hs:∀j,j<=2->(bj (aE x y) (aE nx ny) j).length<=1000000:=λ_ hj=>Nat.le_trans (Bs x y hj) (by omega);have hl:=hs 2 (by omega);have hg0:((aT (cJ (aE x y) (aE nx ny) d) ((bj (aE x y) (aE nx ny) 2).length+1):Nat):Int)≠0:=sm hd;have hgd:((aT (cJ (aE x y) (aE nx ny) d) ((bj (aE x y) (aE nx ny) 2).length+1):Nat):Int)∣d:=vW;have hgx:∀i,i<tl x nx->((aT (cJ (aE x y) (aE nx ny) d) ((bj (aE x y) (aE nx ny) 2).length+1):Nat):Int)∣x i:=λi hi=>Bu (Nat.lt_of_lt_of_le hi (bg _ _));have hgy:∀i,i<tl y ny->((aT (cJ (aE x y) (aE nx ny) d) ((bj (aE x y) (aE nx ny) 2).length+1):Nat):Int)∣y i:=λi hi=>Bv (Nat.lt_of_lt_of_le hi (bg _ _));exact adL Oe [⟨.agg [.s,.s,.b,.s],[(0,1,8),(1,1,9),(2,2,7)]⟩] NZ func65 (by kernel_rfl) (lB (Bw (z:=x) (y:=y) (n:=nx) (m:=ny) (Rw.To 2 (If x k) nx (λ_ _ _ _ h=>h)) (Rw.To 2 (If y k) ny (λ_ _ _ _ h=>h)) rfl) (lB (Bz (n:=2) ad rfl hs) (lB (km (n:=(bj (aE x y) (aE nx ny) 2).length) (F:=(λι w v=>aD w v ((cJ (aE x y) (aE nx ny) d) ι) k)) (λ_ _ _ _ g h=>aD.kp h g) (λ_ _ h=>aA.to (sz:=2) (e:=28) (n:=(bj (aE x y) (aE nx ny) 2).length) (F:=(λι w v=>aD w v ((ae (bj (aE x y) (aE nx ny) 2)) ι) k)) (G:=(λι w v=>aD w v ((cJ (aE x y) (aE nx ny) d) ι) k)) h λ_ _ _ ha h=>by rw [<- sk ha];exact h) (λ_ _ h=>by rw [<- qe];exact ak.i h) (λ_ _ h=>ak.dQ h) rfl) (lB (eS [1] (BI ad rfl)) (lB (eS [1] (wd nI nI rfl (hg0) (hgd) rfl)) (lB (eS [1] (sn (z:=x) (n:=nx) (Rw.To 2 (If x k) nx (λ_ _ _ _ h=>h)) nI rfl (λ_=>hg0) (hgx) (hX))) (lB (eS [1] (sn (z:=y) (n:=ny) (Rw.To 2 (If y k) ny (λ_ _ _ _ h=>h)) nI rfl (λ_=>hg0) (hgy) (hY))) au)))))))
  (aP [.fact 0 (.one (.s)),.fact 1 (.one (.s)),.parts (.agg [.lit (.cb false),.s]) [(0,0,2)]] ⟨Rw.Is 2 (If x k) nx,Rw.Is 2 (If y k) ny,trivial,trivial⟩) aV
section
variable {Φ:PH}{p q r p0 p1 p2 nx ny:Nat}{x:Nat->Int}{D:Int}{X Y:List Int}
theorem Og (hp:Im Φ p (Rw 2 (If x k) nx)) (hq:Im Φ q (Rw 2 (If y k) ny)) (hr:Im Φ r (Nw d k)) (h0:Φ p0=Rw 2 (Nf (ae X) k) X.length) (h1:Φ p1=Rw 2 (Nf (ae Y) k) Y.length) (h2:Φ p2=Nw D k)
  (hx:nx<=400000) (hy:ny<=400000) (hk:k<=400000) (hd:0<d) (hX:dvL x nx ((aT (cJ (aE x y) (aE nx ny) d) ((bj (aE x y) (aE nx ny) 2).length+1):Nat):Int)=X) (hY:dvL y ny ((aT (cJ (aE x y) (aE nx ny) d) ((bj (aE x y) (aE nx ny) 2).length+1):Nat):Int)=Y) (hD:d / ((aT (cJ (aE x y) (aE nx ny) d) ((bj (aE x y) (aE nx ny) 2).length+1):Nat):Int)=D) :
  aj Φ prog ⟨65,[.fact p,.fact q,.fact r],[⟨.agg [.s,.s,.b,.s],[(0,1,p0),(1,1,p1),(2,2,p2)]⟩],false⟩:=
 aU (Of (x:=x) (y:=y) (nx:=nx) (ny:=ny) (k:=k) (d:=d) hx hy hk hX hY) ⟨hp,hq,⟨λ_ _ h=>ak.pos (hr _ _ h) hd,hr,trivial⟩,trivial⟩ ⟨⟨rfl,⟨rfl,rfl,λ_ _ h=>h0▸h⟩,⟨rfl,rfl,λ_ _ h=>h1▸h⟩,⟨rfl,rfl,λ_ _ h=>h2▸hD▸h⟩,trivial⟩,trivial⟩
end
end Go.Proofs.YtlmanbjkkjfjgaaGreat.Sym
