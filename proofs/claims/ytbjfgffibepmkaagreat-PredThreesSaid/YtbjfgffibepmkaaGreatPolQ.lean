/- A rational that came in -/
import Derived.Lib.SmallJoins
import Derived.Lay
import Derived.MakeChecks
import Derived.Stop.Joined
import Derived.SevenTiedAt
import Derived.Test.YtbjfgffibepmkaaGreatPolW
import Derived.Test.YtbjfgffibepmkaaGreatPolH
import Derived.Deep.Slices
namespace Go.Proofs.YtbjfgffibepmkaaGreat
open Go.RowKit
open Go.ChangeShapes Go.WideShapes Go.ChangeAt Go.RowKit
theorem Tryz.cells24:Tryz.prog.cellsOf 27=2:=by kernel_rfl
theorem Tryz.cells4:Tryz.prog.cellsOf 4=1:=by kernel_rfl
theorem Tryz.cells22:Tryz.prog.cellsOf 25=1:=by kernel_rfl
section
variable {H:Type}{enc:TypeId×Value->H}
set_option maxRecDepth 100000 in
theorem sW {W:World}{base:Nat}{held:Bool}{x y:Value}{fuel:Nat}{z:DataW H×List MemPlace}
  (h:DataW.trod enc Tryz.prog W base (fun _=>true) held fuel 27 [x,y]=some z):∃b xs,x = .bool b∧Sl W .u32 y xs∧All 4294967296 xs:=by
 obtain ⟨y0,y1,n,-,-,h0,h1⟩:=trod_struct2 Tryz.underlying27 h
 simp only [Tryz.cells4,Tryz.cells22,List.drop_zero,List.take_succ_cons,List.take_zero,List.drop_succ_cons] at h0 h1
 obtain ⟨b,e0,-⟩:=DataW.trod_bool Tryz.underlying4 h0
 obtain rfl:x = .bool b:=by simpa using e0
 obtain ⟨xs,h2,h3⟩:=Wp (W:=W) Tryz.underlying25 Tryz.underlying119 h1
 exact ⟨b,xs,rfl,h2,h3⟩
end
end Go.Proofs.YtbjfgffibepmkaaGreat
namespace Go.Proofs.YtbjfgffibepmkaaGreat.Sym
open Go.RowKit
section
variable {Φ:PH}
end
section
variable {Φ:PH}
theorem Arr.is {sz n:Nat}{F:PH}{w:World}{v:Value} (h:Arr sz F n w v):(bW.one .s).is v:=by
 obtain ⟨p,c,rfl,_⟩:=h
 exact ⟨⟨_,_,_,rfl⟩,fun _ h=>by cases h⟩
end
section
variable (z y:Int)(ez ey:Nat->Int)
end
section
variable {Φ:PH}{p q x x1 x2 n K:Nat}{z y:Int}{ez ey:Nat->Int}{t:Rat}
end
end Go.Proofs.YtbjfgffibepmkaaGreat.Sym
namespace Go.Proofs.YtbjfgffibepmkaaGreat
open Go.RowKit Go.Proofs.YtbjfgffibepmkaaGreat.Sym
variable {n sz:Nat}{F:PH}{w:World}{v:Value}
theorem Rw.grow {w':World} (hF:∀i w w1 v,Kp w w1->F i w v->F i w1 v) (h:Rw sz F n w v) (g:w.grownBy w' none):Rw sz F n w' v:=by
 obtain ⟨p,c,rfl,hc,h1⟩:=h
 refine ⟨p,c,rfl,hc,fun i hi=>?_⟩
 obtain ⟨b,off,rfl,l,h2,h3,h4⟩:=h1 i hi
 exact ⟨b,off,rfl,l,h2,fun j u hj=>cell_grown g (h3 j u hj),hF _ _ _ _ (Kp.of g) h4⟩
theorem Rw.ja {w1:World} (hF:∀i w w1 v,Kp w w1->F i w v->F i w1 v) (h:Rw sz F n w v) (ho:Off (fun _=>False) w w1):Rw sz F n w1 v:=by
 have:=Rw.arg (Φ:=fun _=>Rw sz F n) (p:=0) (X:=fun _=>False) hF h rfl (fun _ h=>h.elim)
 exact this w1 ho
theorem three (a b c:Int) (w:World):Rw 1 (fun i _ v=>v = .agg #[.int .i64 (ae [a,b,c] i)]) 3 (w.alloc (.cells #[.int .i64 a,.int .i64 b,.int .i64 c] 3)) (.slice (some ⟨w.heap.size,0,none⟩) 3 3):=by
 refine ⟨_,_,rfl,Nat.le_refl _,fun i hi=>⟨_,_,rfl,[.int .i64 (ae [a,b,c] i)],rfl,fun j u hj=>?_,rfl⟩⟩
 cases j with
 | succ j=>simp at hj
 | zero=>
  simp only [List.getElem?_cons_zero,Option.some.injEq] at hj
  subst hj
  rw [World.cell?_alloc_new]
  have:i=0∨i=1∨i=2:=by omega
  rcases this with rfl | rfl | rfl <;> simp [ae]
end Go.Proofs.YtbjfgffibepmkaaGreat
namespace Go.Proofs.YtbjfgffibepmkaaGreat.Sym
open Go.RowKit
variable {m:Nat}{t:Rat}
def mn:Op->Option (List Operand)
 | .binOp .rem _ x y _=>some [x,y]
 | _=>none
section
variable {P:Program}{Φ:PH}{p q x y:Nat}
theorem qi {a b c:Int} (hp:∀w v,Φ p w v->v = .int .i64 a) (hb:0<b) (hx:Φ x=Ni c) (hc:Int.tmod a b=c:=by rfl):aj Φ P ⟨0,[.fact p,.lit (.ci .i64 b)],[oN x],.quiet mn⟩:=fun X w ac o xs _ hm ha=>by
 unfold mn at hm
 split at hm
 case h_2=>cases hm
 rename_i t y z yt ho
 simp only [Option.some.injEq] at hm
 subst hm
 subst hc
 refine ⟨.int .i64 (Int.tmod a b),w,mu ho (hp _ _ (ha.1 w (Off.refl _ _))) ha.2.1 ?_,bt w none,cP (dc _) hx fun _ _=>rfl⟩
 simp only [binOp]
 rw [if_neg (by simp)]
 unfold Op.intDiv
 simp only []
 rw [if_neg (by omega)];rfl
end
def hN (z:Nat->Int) (m:Nat) (u d:Int):Nat->Int
 | 0=>if m=0 then 0 else z (m-1)
 | j+1=>hN z m u d j*u+z (m-2-j)*d ^ (j+1)
section
variable {Φ:PH}{p q x x1 x2 n n0 K k i N:Nat}{z:Nat->Int}
end
section
variable {Φ:PH}{p r x y n k kt kn:Nat}{z:Nat->Int}{q:Rat}{t t':Int}
end
section
variable {Φ:PH}{p r x y n k kt kn:Nat}{z:Nat->Int}{q:Rat}{t t':Int}
end
theorem Bd.add1 {A B i:Nat} (h:Bd A i) (k:Bd B i):Bd (A+B) (i+1):=by
 unfold Bd at *
 rw [Nat.pow_succ]
 generalize 4294967296 ^ i=M at *
 omega
theorem Bd.sR {A k:Nat} (h:Bd A k):∀j,Bd (A ^ j) (j*k+1)
 | 0=>by rw [Nat.pow_zero,Nat.zero_mul];show 1<_;decide
 | j+1=>by
  rw [Nat.pow_succ,Nat.succ_mul,show j*k+k+1=(j*k+1)+k by omega]
  exact Bd.mul (Bd.sR h j) h
def ev (x:Rat):Nat->(Nat->Int)->Rat
 | 0,_=>0
 | m+1,z=>(z 0:Rat)+x*ev x m (fun i=>z (i+1))
def hV (u d:Int):Nat->(Nat->Int)->Int
 | 0,_=>0
 | m+1,z=>z 0*d ^ m+u*hV u d m (fun i=>z (i+1))
theorem CI {u d:Int}{x:Rat} (h:x*d=u):∀(m:Nat) (z:Nat->Int),(hV u d m z:Rat)*d=ev x m z*(d:Rat) ^ m
 | 0,z=>by simp [hV,ev]
 | m+1,z=>by
  have:=CI h m fun i=>z (i+1)
  simp only [hV,ev]
  push_cast
  rw [Rat.pow_succ]
  grind
theorem yk {x:Rat} (h:x≠0):∀m:Nat,x ^ m≠0
 | 0=>by simp
 | m+1=>by rw [Rat.pow_succ];intro e;have:=yk h m;rcases Rat.mul_eq_zero.1 e with h1 | h1 <;> contradiction
theorem iA {x:Rat}:∀{m:Nat}{z y:Nat->Int},(∀i,i<m->z i=y i)->ev x m z=ev x m y
 | 0,_,_,_=>rfl
 | m+1,z,y,h=>by
  simp only [ev]
  rw [h 0 (by omega),iA (m:=m) fun i hi=>h (i+1) (by omega)]
theorem pM {x:Rat}:∀{m:Nat}{z:Nat->Int},(∀i,i<m->z i=0)->ev x m z=0
 | 0,_,_=>rfl
 | m+1,z,h=>by
  simp only [ev]
  rw [h 0 (by omega),pM (m:=m) fun i hi=>h (i+1) (by omega)]
  grind
theorem CJ {x:Rat}:∀{n k:Nat}{z:Nat->Int},(∀i,n<=i->i<n+k->z i=0)->ev x (n+k) z=ev x n z
 | 0,k,z,h=>by rw [Nat.zero_add];exact pM fun i hi=>h i (by omega) (by omega)
 | n+1,k,z,h=>by
  rw [show n+1+k=(n+k)+1 by omega]
  simp only [ev]
  rw [CJ (n:=n) fun i h1 h2=>h (i+1) (by omega) (by omega)]
theorem ji {x:Rat}{n:Nat}{z:Nat->Int} (hn:∀i,n<=i->z i=0) (h:n<=m):ev x m z=ev x n z:=by
 obtain ⟨k,rfl⟩:=Nat.le.dest h
 exact CJ fun i h _=>hn i h
theorem CK {x:Rat}:∀(m:Nat) (z:Nat->Int),ev x (m+1) z=ev x m z+x ^ m*z m
 | 0,z=>by simp [ev];grind
 | m+1,z=>by
  rw [ev,CK m (fun i=>z (i+1))]
  simp only [ev]
  rw [Rat.pow_succ]
  grind
theorem kF {x:Rat}:∀(m:Nat) (z y:Nat->Int),ev x m (fun i=>z i+y i)=ev x m z+ev x m y
 | 0,_,_=>by simp only [ev];grind
 | m+1,z,y=>by
  simp only [ev]
  rw [kF m (fun i=>z (i+1)) (fun i=>y (i+1))]
  push_cast
  grind
theorem mm {x:Rat} (c:Int):∀(m:Nat) (z:Nat->Int),ev x m (fun i=>c*z i)=c*ev x m z
 | 0,_=>by simp [ev]
 | m+1,z=>by
  simp only [ev]
  rw [mm c m (fun i=>z (i+1))]
  push_cast
  grind
theorem sM {x:Rat}{b:Nat}{g:Nat->Int} (hg:∀i,b<=i->g i=0):∀{a:Nat}{f:Nat->Int},(∀i,a<=i->f i=0)->ev x (a+b) (conv f g)=ev x a f*ev x b g
 | 0,f,hf=>by
  rw [pM fun i _=>qX (fun i=>hf i (by omega)) i]
  simp [ev]
 | a+1,f,hf=>by
  have h1:=sM (x:=x) hg (a:=a) (f:=fun i=>f (i+1)) fun i hi=>hf (i+1) (by omega)
  have h2:ev x (a+b+1) g=ev x b g:=ji hg (by omega)
  rw [show a+1+b=(a+b)+1 by omega]
  have e:(fun i=>conv f g (i+1))=fun i=>f 0*g (i+1)+conv (fun x=>f (x+1)) g i:=rfl
  rw [ev,e,kF (a+b) (fun i=>f 0*g (i+1)) (conv (fun x=>f (x+1)) g),mm (f 0) (a+b) (fun i=>g (i+1)),h1]
  rw [ev] at h2
  simp only [conv,ev]
  push_cast
  grind
theorem CL {s:Rat} (c:Nat->Int) (u:Int):∀(r i:Nat),ev s r (fun k=>c (i+k))=hsum c u r i+(s-u)*ev s (r-1) (fun k=>hsum c u (r-1-k) (i+1+k))
 | 0,i=>by simp only [ev,hsum,Nat.zero_sub,Rat.mul_zero];push_cast;grind
 | 1,i=>by simp only [ev,hsum,Nat.sub_self,Rat.mul_zero];push_cast;grind
 | r+2,i=>by
  have h:=CL (s:=s) c u (r+1) (i+1)
  rw [ev]
  have e:(fun k=>c (i+(k+1)))=fun k=>c (i+1+k):=funext fun k=>congrArg c (by omega)
  rw [e,h,Nat.add_sub_cancel,show r+2-1=r+1 from rfl,show hsum c u (r+2) i=c i+hsum c u (r+1) (i+1)*u from rfl]
  have e2:(fun k=>hsum c u (r+1-(k+1)) (i+1+(k+1)))=fun k=>hsum c u (r-k) (i+1+1+k):=funext fun k=>by rw [show r+1-(k+1)=r-k by omega,show i+1+(k+1)=i+1+1+k by omega]
  show _=_+(s-u)*(((hsum c u (r+1-0) (i+1+0):Int):Rat)+s*ev s r fun k=>hsum c u (r+1-(k+1)) (i+1+(k+1)))
  rw [e2]
  simp only [Nat.add_zero,Nat.sub_zero]
  push_cast
  grind
theorem QM  (c:Nat->Int) (u:Int){j:Nat}:ev t (j+1) (shS c u m (j+1))+t ^ (j+1)*ev (t+u) (m-(j+1)) (fun k=>shS c u m (j+1) (j+1+k))=ev t j (shS c u m j)+t ^ j*ev (t+u) (m-j) (fun k=>shS c u m j (j+k)):=by
 rw [CK,CL (shS c u m j) u (m-j) j]
 have e1:ev t j (shS c u m (j+1))=ev t j (shS c u m j):=iA fun i hi=>by simp only [shS];rw [if_pos hi]
 have e2:shS c u m (j+1) j=hsum (shS c u m j) u (m-j) j:=by simp only [shS];rw [if_neg (by omega)]
 have e3:(fun k=>shS c u m (j+1) (j+1+k))=fun k=>hsum (shS c u m j) u (m-j-1-k) (j+1+k):=funext fun k=>by
  simp only [shS]
  rw [if_neg (by omega),show m-(j+1+k)=m-j-1-k by omega]
 rw [e1,e2,e3,show m-(j+1)=m-j-1 by omega,Rat.pow_succ]
 grind
theorem CM {t:Rat} (c:Nat->Int) (u:Int){m:Nat}:∀{j},j<=m->ev t j (shS c u m j)+t ^ j*ev (t+u) (m-j) (fun k=>shS c u m j (j+k))=ev (t+u) m c
 | 0,_=>by simp [ev,shS];grind
 | j+1,h=>by rw [QM c u,CM c u (by omega)]
theorem QN  (c:Nat->Int) (u:Int) (m:Nat):ev t m (shS c u m m)=ev (t+u) m c:=by
 have:=CM (t:=t) c u (Nat.le_refl m)
 rw [Nat.sub_self,ev] at this
 grind
theorem CN {x:Rat} (d:Int):∀(m:Nat) (z:Nat->Int),ev x m (fun i=>z i*d ^ i)=ev (x*d) m z
 | 0,_=>rfl
 | m+1,z=>by
  simp only [ev]
  have e:(fun i=>z (i+1)*d ^ (i+1))=fun i=>d*(z (i+1)*d ^ i):=funext fun i=>by rw [Int.pow_succ];grind
  rw [e,mm d m (fun i=>z (i+1)*d ^ i),CN d m (fun i=>z (i+1))]
  simp only [Int.pow_zero]
  push_cast
  grind
theorem CO {y x:Rat}{d:Int} (h:x*d=y):∀(m:Nat) (z:Nat->Int),ev y m (fun i=>z i*d ^ (m-1-i))=(d:Rat) ^ (m-1)*ev x m z
 | 0,_=>by simp [ev]
 | 1,z=>by simp [ev]
 | m+2,z=>by
  have h1:=CO h (m+1) (fun i=>z (i+1))
  rw [ev,ev.eq_2 x]
  have e:(fun i=>z (i+1)*d ^ (m+2-1-(i+1)))=fun i=>z (i+1)*d ^ (m+1-1-i):=funext fun i=>by rw [show m+2-1-(i+1)=m+1-1-i by omega]
  rw [e,h1]
  rw [show m+2-1=m+1 by omega,Nat.add_sub_cancel,Nat.sub_zero,Rat.pow_succ]
  push_cast
  rw [Rat.pow_succ]
  grind
theorem yj (x:Rat) (z:Nat->Int) (n:Nat):ev x (tl z n) z=ev x n (upto n z):=by
 rw [ji (n:=tl z n) (fun i hi=>kY (h:=hi)) (bi z n)]
 have:=bi z n
 exact iA fun i hi=>(gi (by omega)).symm
theorem kG (x:Rat) (z:Nat->Int) (n:Nat):ev x n (upto n z)=ev x n z:=iA fun _ hi=>gi hi
theorem zn (x:Rat) (z:Nat->Int) (n:Nat) (y:Nat->Int) (m:Nat):ev x (mulL z n y m).length (ae (mulL z n y m))=ev x n z*ev x m y:=by
 have h1:=sM (x:=x) (a:=n) (b:=m) (f:=upto n z) (g:=upto m y) (fun i hi=>jF hi) fun i hi=>jF hi
 rw [kG,kG] at h1
 rw [<- h1,<- ji (x:=x) (fun i hi=>eT (h:=hi)) (Qu z n y m)]
 exact iA fun i _=>Cy z n y m i
theorem Iy {d:Int} (hd:d≠0) (t:Rat) (z:Nat->Int) (n:Nat) (u:Int):ev t (mvL z n u d).length (ae (mvL z n u d))=(d:Rat) ^ (tl z n-1)*ev (t+u / d) n z:=by
 have h0:(d:Rat)≠0:=by exact_mod_cast hd
 rw [pN,iA (y:=fun i=>mvS z n u d (tl z n) i*d ^ i) fun i hi=>sU hi,CN]
 unfold mvS
 rw [QN]
 unfold me
 rw [CO (x:=t+u / d) (by grind),yj,kG]
open Go.RowKit Go.ChangeShapes Go.WideShapes Go.ChangeAt
section
variable {Φ:PH}{p x y n n0:Nat}{z:Nat->Int}
end
end Go.Proofs.YtbjfgffibepmkaaGreat.Sym
