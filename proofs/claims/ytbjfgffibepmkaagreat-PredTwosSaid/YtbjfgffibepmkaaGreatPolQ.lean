/- Values of polynomials -/
import Derived.Test.YtbjfgffibepmkaaGreatPolH
import Derived.Test.YtbjfgffibepmkaaGreatPolM
import Derived.Deep.Slices
namespace Go.Proofs.YtbjfgffibepmkaaGreat.Sym
open Go.RowKit
variable {m:Nat}{t:Rat}
def ev (x:Rat):Nat->(Nat->Int)->Rat
 | 0,_=>0
 | m+1,z=>(z 0:Rat)+x*ev x m (fun i=>z (i+1))
def hV (u d:Int):Nat->(Nat->Int)->Int
 | 0,_=>0
 | m+1,z=>z 0*d ^ m+u*hV u d m (fun i=>z (i+1))
theorem CI {u d:Int}{x:Rat} (h:x*d=u):∀(m:Nat) (z:Nat->Int),(hV u d m z:Rat)*d=ev x m z*(d:Rat) ^ m
 | 0,z=>by simp [hV,ev]
 | m+1,z=>by
  have:=CI h m fun i=>z (i+1)
  simp only [hV,ev]
  push_cast
  rw [Rat.pow_succ]
  grind
theorem yk {x:Rat} (h:x≠0):∀m:Nat,x ^ m≠0
 | 0=>by simp
 | m+1=>by rw [Rat.pow_succ];intro e;have:=yk h m;rcases Rat.mul_eq_zero.1 e with h1 | h1 <;> contradiction
theorem iA {x:Rat}:∀{m:Nat}{z y:Nat->Int},(∀i,i<m->z i=y i)->ev x m z=ev x m y
 | 0,_,_,_=>rfl
 | m+1,z,y,h=>by
  simp only [ev]
  rw [h 0 (by omega),iA (m:=m) fun i hi=>h (i+1) (by omega)]
theorem pM {x:Rat}:∀{m:Nat}{z:Nat->Int},(∀i,i<m->z i=0)->ev x m z=0
 | 0,_,_=>rfl
 | m+1,z,h=>by
  simp only [ev]
  rw [h 0 (by omega),pM (m:=m) fun i hi=>h (i+1) (by omega)]
  grind
theorem CJ {x:Rat}:∀{n k:Nat}{z:Nat->Int},(∀i,n<=i->i<n+k->z i=0)->ev x (n+k) z=ev x n z
 | 0,k,z,h=>by rw [Nat.zero_add];exact pM fun i hi=>h i (by omega) (by omega)
 | n+1,k,z,h=>by
  rw [show n+1+k=(n+k)+1 by omega]
  simp only [ev]
  rw [CJ (n:=n) fun i h1 h2=>h (i+1) (by omega) (by omega)]
theorem ji {x:Rat}{n:Nat}{z:Nat->Int} (hn:∀i,n<=i->z i=0) (h:n<=m):ev x m z=ev x n z:=by
 obtain ⟨k,rfl⟩:=Nat.le.dest h
 exact CJ fun i h _=>hn i h
theorem CK {x:Rat}:∀(m:Nat) (z:Nat->Int),ev x (m+1) z=ev x m z+x ^ m*z m
 | 0,z=>by simp [ev];grind
 | m+1,z=>by
  rw [ev,CK m (fun i=>z (i+1))]
  simp only [ev]
  rw [Rat.pow_succ]
  grind
theorem kF {x:Rat}:∀(m:Nat) (z y:Nat->Int),ev x m (fun i=>z i+y i)=ev x m z+ev x m y
 | 0,_,_=>by simp only [ev];grind
 | m+1,z,y=>by
  simp only [ev]
  rw [kF m (fun i=>z (i+1)) (fun i=>y (i+1))]
  push_cast
  grind
theorem mm {x:Rat} (c:Int):∀(m:Nat) (z:Nat->Int),ev x m (fun i=>c*z i)=c*ev x m z
 | 0,_=>by simp [ev]
 | m+1,z=>by
  simp only [ev]
  rw [mm c m (fun i=>z (i+1))]
  push_cast
  grind
theorem sM {x:Rat}{b:Nat}{g:Nat->Int} (hg:∀i,b<=i->g i=0):∀{a:Nat}{f:Nat->Int},(∀i,a<=i->f i=0)->ev x (a+b) (conv f g)=ev x a f*ev x b g
 | 0,f,hf=>by
  rw [pM fun i _=>qX (fun i=>hf i (by omega)) i]
  simp [ev]
 | a+1,f,hf=>by
  have h1:=sM (x:=x) hg (a:=a) (f:=fun i=>f (i+1)) fun i hi=>hf (i+1) (by omega)
  have h2:ev x (a+b+1) g=ev x b g:=ji hg (by omega)
  rw [show a+1+b=(a+b)+1 by omega]
  have e:(fun i=>conv f g (i+1))=fun i=>f 0*g (i+1)+conv (fun x=>f (x+1)) g i:=rfl
  rw [ev,e,kF (a+b) (fun i=>f 0*g (i+1)) (conv (fun x=>f (x+1)) g),mm (f 0) (a+b) (fun i=>g (i+1)),h1]
  rw [ev] at h2
  simp only [conv,ev]
  push_cast
  grind
theorem CL {s:Rat} (c:Nat->Int) (u:Int):∀(r i:Nat),ev s r (fun k=>c (i+k))=hsum c u r i+(s-u)*ev s (r-1) (fun k=>hsum c u (r-1-k) (i+1+k))
 | 0,i=>by simp only [ev,hsum,Nat.zero_sub,Rat.mul_zero];push_cast;grind
 | 1,i=>by simp only [ev,hsum,Nat.sub_self,Rat.mul_zero];push_cast;grind
 | r+2,i=>by
  have h:=CL (s:=s) c u (r+1) (i+1)
  rw [ev]
  have e:(fun k=>c (i+(k+1)))=fun k=>c (i+1+k):=funext fun k=>congrArg c (by omega)
  rw [e,h,Nat.add_sub_cancel,show r+2-1=r+1 from rfl,show hsum c u (r+2) i=c i+hsum c u (r+1) (i+1)*u from rfl]
  have e2:(fun k=>hsum c u (r+1-(k+1)) (i+1+(k+1)))=fun k=>hsum c u (r-k) (i+1+1+k):=funext fun k=>by rw [show r+1-(k+1)=r-k by omega,show i+1+(k+1)=i+1+1+k by omega]
  show _=_+(s-u)*(((hsum c u (r+1-0) (i+1+0):Int):Rat)+s*ev s r fun k=>hsum c u (r+1-(k+1)) (i+1+(k+1)))
  rw [e2]
  simp only [Nat.add_zero,Nat.sub_zero]
  push_cast
  grind
theorem QM  (c:Nat->Int) (u:Int){j:Nat}:ev t (j+1) (shS c u m (j+1))+t ^ (j+1)*ev (t+u) (m-(j+1)) (fun k=>shS c u m (j+1) (j+1+k))=ev t j (shS c u m j)+t ^ j*ev (t+u) (m-j) (fun k=>shS c u m j (j+k)):=by
 rw [CK,CL (shS c u m j) u (m-j) j]
 have e1:ev t j (shS c u m (j+1))=ev t j (shS c u m j):=iA fun i hi=>by simp only [shS];rw [if_pos hi]
 have e2:shS c u m (j+1) j=hsum (shS c u m j) u (m-j) j:=by simp only [shS];rw [if_neg (by omega)]
 have e3:(fun k=>shS c u m (j+1) (j+1+k))=fun k=>hsum (shS c u m j) u (m-j-1-k) (j+1+k):=funext fun k=>by
  simp only [shS]
  rw [if_neg (by omega),show m-(j+1+k)=m-j-1-k by omega]
 rw [e1,e2,e3,show m-(j+1)=m-j-1 by omega,Rat.pow_succ]
 grind
theorem CM {t:Rat} (c:Nat->Int) (u:Int){m:Nat}:∀{j},j<=m->ev t j (shS c u m j)+t ^ j*ev (t+u) (m-j) (fun k=>shS c u m j (j+k))=ev (t+u) m c
 | 0,_=>by simp [ev,shS];grind
 | j+1,h=>by rw [QM c u,CM c u (by omega)]
theorem QN  (c:Nat->Int) (u:Int) (m:Nat):ev t m (shS c u m m)=ev (t+u) m c:=by
 have:=CM (t:=t) c u (Nat.le_refl m)
 rw [Nat.sub_self,ev] at this
 grind
theorem CN {x:Rat} (d:Int):∀(m:Nat) (z:Nat->Int),ev x m (fun i=>z i*d ^ i)=ev (x*d) m z
 | 0,_=>rfl
 | m+1,z=>by
  simp only [ev]
  have e:(fun i=>z (i+1)*d ^ (i+1))=fun i=>d*(z (i+1)*d ^ i):=funext fun i=>by rw [Int.pow_succ];grind
  rw [e,mm d m (fun i=>z (i+1)*d ^ i),CN d m (fun i=>z (i+1))]
  simp only [Int.pow_zero]
  push_cast
  grind
theorem CO {y x:Rat}{d:Int} (h:x*d=y):∀(m:Nat) (z:Nat->Int),ev y m (fun i=>z i*d ^ (m-1-i))=(d:Rat) ^ (m-1)*ev x m z
 | 0,_=>by simp [ev]
 | 1,z=>by simp [ev]
 | m+2,z=>by
  have h1:=CO h (m+1) (fun i=>z (i+1))
  rw [ev,ev.eq_2 x]
  have e:(fun i=>z (i+1)*d ^ (m+2-1-(i+1)))=fun i=>z (i+1)*d ^ (m+1-1-i):=funext fun i=>by rw [show m+2-1-(i+1)=m+1-1-i by omega]
  rw [e,h1]
  rw [show m+2-1=m+1 by omega,Nat.add_sub_cancel,Nat.sub_zero,Rat.pow_succ]
  push_cast
  rw [Rat.pow_succ]
  grind
theorem yj (x:Rat) (z:Nat->Int) (n:Nat):ev x (tl z n) z=ev x n (upto n z):=by
 rw [ji (n:=tl z n) (fun i hi=>kY (h:=hi)) (bi z n)]
 have:=bi z n
 exact iA fun i hi=>(gi).symm
theorem kG (x:Rat) (z:Nat->Int) (n:Nat):ev x n (upto n z)=ev x n z:=iA fun _ hi=>gi (h:=hi)
theorem zn (x:Rat) (z:Nat->Int) (n:Nat) (y:Nat->Int) (m:Nat):ev x (mulL z n y m).length (ae (mulL z n y m))=ev x n z*ev x m y:=by
 have h1:=sM (x:=x) (a:=n) (b:=m) (f:=upto n z) (g:=upto m y) (fun i hi=>jF hi) fun i hi=>jF hi
 rw [kG,kG] at h1
 rw [<- h1,<- ji (x:=x) (fun i hi=>eT (h:=hi)) (Qu z n y m)]
 exact iA fun i _=>Cy z n y m i
theorem Iy {d:Int} (hd:d≠0) (t:Rat) (z:Nat->Int) (n:Nat) (u:Int):ev t (mvL z n u d).length (ae (mvL z n u d))=(d:Rat) ^ (tl z n-1)*ev (t+u / d) n z:=by
 have h0:(d:Rat)≠0:=by exact_mod_cast hd
 rw [pN,iA (y:=fun i=>mvS z n u d (tl z n) i*d ^ i) fun i hi=>sU hi,CN]
 unfold mvS
 rw [QN]
 unfold me
 rw [CO (x:=t+u / d) (by grind),yj,kG]
open Go.RowKit Go.ChangeShapes Go.WideShapes Go.ChangeAt
section
variable {Φ:PH}{p x y n n0:Nat}{z:Nat->Int}
end
end Go.Proofs.YtbjfgffibepmkaaGreat.Sym
