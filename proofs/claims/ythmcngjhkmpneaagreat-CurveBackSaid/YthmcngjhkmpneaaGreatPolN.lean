/- Values of polynomials: of Horner's sums, of products, of those that are moved. -/
import Derived.Test.YthmcngjhkmpneaaGreatPolH
import Derived.Test.YthmcngjhkmpneaaGreatPolZ
namespace Go.Proofs.YthmcngjhkmpneaaGreat.Sym
open Go.RowKit
def ev (x:Rat):Nat->(Nat->Int)->Rat
 | 0,_=>0
 | m+1,z=>(z 0:Rat)+x*ev x m (fun i=>z (i+1))
def hV (u d:Int):Nat->(Nat->Int)->Int
 | 0,_=>0
 | m+1,z=>z 0*d ^ m+u*hV u d m (fun i=>z (i+1))
theorem LN (z:Nat->Int) (m:Nat) (u d:Int):∀{j:Nat},j<m->hN z m u d j=hV u d (j+1) (fun i=>z (i+(m-1-j)))
 | 0,h=>by
  simp only [hN,hV]
  rw [if_neg (by omega)]
  simp
 | j+1,h=>by
  rw [hN,LN z m u d (j:=j) (by omega)]
  show _=z (0+(m-1-(j+1)))*d ^ (j+1)+u*hV u d (j+1) (fun i=>z (i+1+(m-1-(j+1))))
  have e:(fun i=>z (i+1+(m-1-(j+1))))=fun i=>z (i+(m-1-j)):=funext fun i=>congrArg z (by omega)
  rw [e,show 0+(m-1-(j+1))=m-2-j by omega,Int.mul_comm u]
  omega
theorem Rk (z:Nat->Int) (m:Nat) (u d:Int):hN z m u d (m-1)=hV u d m z:=by
 cases m with
 | zero=>simp [hN,hV]
 | succ m=>
  rw [LN z (m+1) u d (by omega),Nat.add_sub_cancel]
  simp
theorem xk {u d:Int}{x:Rat} (h:x*d=u):∀(m:Nat) (z:Nat->Int),(hV u d m z:Rat)*d=ev x m z*(d:Rat) ^ m
 | 0,z=>by simp [hV,ev]
 | m+1,z=>by
  have:=xk h m fun i=>z (i+1)
  simp only [hV,ev]
  push_cast
  rw [Rat.pow_succ]
  grind
theorem tH {x:Rat} (h:x≠0):∀m:Nat,x ^ m≠0
 | 0=>by simp
 | m+1=>by rw [Rat.pow_succ];intro e;have:=tH h m;rcases Rat.mul_eq_zero.1 e with h1 | h1 <;> contradiction
theorem Rm {u d:Int}{x:Rat} (h:x*d=u) (hd:d≠0) (m:Nat) (z:Nat->Int):Rat.divInt (hN z m u d (m-1)) (d ^ (m-1))=ev x m z:=by
 have h1:=xk h m z
 have h0:(d:Rat)≠0:=by exact_mod_cast hd
 rw [Rk,Rat.divInt_eq_div]
 push_cast
 cases m with
 | zero=>simp [hV,ev];grind
 | succ m=>
  rw [Nat.add_sub_cancel]
  have h2:(d:Rat) ^ m≠0:=tH h0 m
  rw [Rat.pow_succ] at h1
  grind
theorem gx {x:Rat}:∀{m:Nat}{z y:Nat->Int},(∀i,i<m->z i=y i)->ev x m z=ev x m y
 | 0,_,_,_=>rfl
 | m+1,z,y,h=>by
  simp only [ev]
  rw [h 0 (by omega),gx (m:=m) fun i hi=>h (i+1) (by omega)]
theorem mp {x:Rat}:∀{m:Nat}{z:Nat->Int},(∀i,i<m->z i=0)->ev x m z=0
 | 0,_,_=>rfl
 | m+1,z,h=>by
  simp only [ev]
  rw [h 0 (by omega),mp (m:=m) fun i hi=>h (i+1) (by omega)]
  grind
theorem xl {x:Rat}:∀{n k:Nat}{z:Nat->Int},(∀i,n<=i->i<n+k->z i=0)->ev x (n+k) z=ev x n z
 | 0,k,z,h=>by rw [Nat.zero_add];exact mp fun i hi=>h i (by omega) (by omega)
 | n+1,k,z,h=>by
  rw [show n+1+k=(n+k)+1 by omega]
  simp only [ev]
  rw [xl (n:=n) fun i h1 h2=>h (i+1) (by omega) (by omega)]
theorem oZ {x:Rat}{n m:Nat}{z:Nat->Int} (hn:∀i,n<=i->z i=0) (h:n<=m):ev x m z=ev x n z:=by
 obtain ⟨k,rfl⟩:=Nat.le.dest h
 exact xl fun i h _=>hn i h
theorem xm {x:Rat}:∀(m:Nat) (z:Nat->Int),ev x (m+1) z=ev x m z+x ^ m*z m
 | 0,z=>by simp [ev];grind
 | m+1,z=>by
  rw [ev,xm m (fun i=>z (i+1))]
  simp only [ev]
  rw [Rat.pow_succ]
  grind
theorem mm {x:Rat}:∀(m:Nat) (z y:Nat->Int),ev x m (fun i=>z i+y i)=ev x m z+ev x m y
 | 0,_,_=>by simp only [ev];grind
 | m+1,z,y=>by
  simp only [ev]
  rw [mm m (fun i=>z (i+1)) (fun i=>y (i+1))]
  push_cast
  grind
theorem nj {x:Rat} (c:Int):∀(m:Nat) (z:Nat->Int),ev x m (fun i=>c*z i)=c*ev x m z
 | 0,_=>by simp [ev]
 | m+1,z=>by
  simp only [ev]
  rw [nj c m (fun i=>z (i+1))]
  push_cast
  grind
theorem tC {x:Rat}{b:Nat}{g:Nat->Int} (hg:∀i,b<=i->g i=0):∀{a:Nat}{f:Nat->Int},(∀i,a<=i->f i=0)->ev x (a+b) (conv f g)=ev x a f*ev x b g
 | 0,f,hf=>by
  rw [mp fun i _=>xf (fun i=>hf i (by omega)) i]
  simp [ev]
 | a+1,f,hf=>by
  have h1:=tC (x:=x) hg (a:=a) (f:=fun i=>f (i+1)) fun i hi=>hf (i+1) (by omega)
  have h2:ev x (a+b+1) g=ev x b g:=oZ hg (by omega)
  rw [show a+1+b=(a+b)+1 by omega]
  have e:(fun i=>conv f g (i+1))=fun i=>f 0*g (i+1)+conv (fun x=>f (x+1)) g i:=rfl
  rw [ev,e,mm (a+b) (fun i=>f 0*g (i+1)) (conv (fun x=>f (x+1)) g),nj (f 0) (a+b) (fun i=>g (i+1)),h1]
  rw [ev] at h2
  simp only [conv,ev]
  push_cast
  grind
theorem xn {s:Rat} (c:Nat->Int) (u:Int):∀(r i:Nat),ev s r (fun k=>c (i+k))=hsum c u r i+(s-u)*ev s (r-1) (fun k=>hsum c u (r-1-k) (i+1+k))
 | 0,i=>by simp only [ev,hsum,Nat.zero_sub,Rat.mul_zero];push_cast;grind
 | 1,i=>by simp only [ev,hsum,Nat.sub_self,Rat.mul_zero];push_cast;grind
 | r+2,i=>by
  have h:=xn (s:=s) c u (r+1) (i+1)
  rw [ev]
  have e:(fun k=>c (i+(k+1)))=fun k=>c (i+1+k):=funext fun k=>congrArg c (by omega)
  rw [e,h,Nat.add_sub_cancel,show r+2-1=r+1 from rfl,show hsum c u (r+2) i=c i+hsum c u (r+1) (i+1)*u from rfl]
  have e2:(fun k=>hsum c u (r+1-(k+1)) (i+1+(k+1)))=fun k=>hsum c u (r-k) (i+1+1+k):=funext fun k=>by rw [show r+1-(k+1)=r-k by omega,show i+1+(k+1)=i+1+1+k by omega]
  show _=_+(s-u)*(((hsum c u (r+1-0) (i+1+0):Int):Rat)+s*ev s r fun k=>hsum c u (r+1-(k+1)) (i+1+(k+1)))
  rw [e2]
  simp only [Nat.add_zero,Nat.sub_zero]
  push_cast
  grind
theorem IL {t:Rat} (c:Nat->Int) (u:Int){m j:Nat}:ev t (j+1) (shS c u m (j+1))+t ^ (j+1)*ev (t+u) (m-(j+1)) (fun k=>shS c u m (j+1) (j+1+k))=ev t j (shS c u m j)+t ^ j*ev (t+u) (m-j) (fun k=>shS c u m j (j+k)):=by
 rw [xm,xn (shS c u m j) u (m-j) j]
 have e1:ev t j (shS c u m (j+1))=ev t j (shS c u m j):=gx fun i hi=>by simp only [shS];rw [if_pos hi]
 have e2:shS c u m (j+1) j=hsum (shS c u m j) u (m-j) j:=by simp only [shS];rw [if_neg (by omega)]
 have e3:(fun k=>shS c u m (j+1) (j+1+k))=fun k=>hsum (shS c u m j) u (m-j-1-k) (j+1+k):=funext fun k=>by
  simp only [shS]
  rw [if_neg (by omega),show m-(j+1+k)=m-j-1-k by omega]
 rw [e1,e2,e3,show m-(j+1)=m-j-1 by omega,Rat.pow_succ]
 grind
theorem xo {t:Rat} (c:Nat->Int) (u:Int){m:Nat}:∀{j},j<=m->ev t j (shS c u m j)+t ^ j*ev (t+u) (m-j) (fun k=>shS c u m j (j+k))=ev (t+u) m c
 | 0,_=>by simp [ev,shS];grind
 | j+1,h=>by rw [IL c u,xo c u (by omega)]
theorem IM {t:Rat} (c:Nat->Int) (u:Int) (m:Nat):ev t m (shS c u m m)=ev (t+u) m c:=by
 have:=xo (t:=t) c u (Nat.le_refl m)
 rw [Nat.sub_self,ev] at this
 grind
theorem xp {x:Rat} (d:Int):∀(m:Nat) (z:Nat->Int),ev x m (fun i=>z i*d ^ i)=ev (x*d) m z
 | 0,_=>rfl
 | m+1,z=>by
  simp only [ev]
  have e:(fun i=>z (i+1)*d ^ (i+1))=fun i=>d*(z (i+1)*d ^ i):=funext fun i=>by rw [Int.pow_succ];grind
  rw [e,nj d m (fun i=>z (i+1)*d ^ i),xp d m (fun i=>z (i+1))]
  simp only [Int.pow_zero]
  push_cast
  grind
theorem xq {y x:Rat}{d:Int} (h:x*d=y):∀(m:Nat) (z:Nat->Int),ev y m (fun i=>z i*d ^ (m-1-i))=(d:Rat) ^ (m-1)*ev x m z
 | 0,_=>by simp [ev]
 | 1,z=>by simp [ev]
 | m+2,z=>by
  have h1:=xq h (m+1) (fun i=>z (i+1))
  rw [ev,ev.eq_2 x]
  have e:(fun i=>z (i+1)*d ^ (m+2-1-(i+1)))=fun i=>z (i+1)*d ^ (m+1-1-i):=funext fun i=>by rw [show m+2-1-(i+1)=m+1-1-i by omega]
  rw [e,h1]
  rw [show m+2-1=m+1 by omega,Nat.add_sub_cancel,Nat.sub_zero,Rat.pow_succ]
  push_cast
  rw [Rat.pow_succ]
  grind
theorem tE (x:Rat) (z:Nat->Int) (n:Nat):ev x (tl z n) z=ev x n (upto n z):=by
 rw [oZ (n:=tl z n) (fun i hi=>qP hi) (aV z n)]
 have:=aV z n
 exact gx fun i hi=>(fH (by omega)).symm
theorem mo (x:Rat) (z:Nat->Int) (n:Nat):ev x n (upto n z)=ev x n z:=gx fun _ hi=>fH hi
theorem Rn (q:Rat):q*((q.den:Int):Rat)=(q.num:Rat):=by
 have h:((q.den:Int):Rat)≠0:=by exact_mod_cast q.den_nz
 have h1:=Rat.num_divInt_den q
 rw [Rat.divInt_eq_div] at h1
 generalize ((q.den:Int):Rat)=d at *
 grind
theorem CC (z:Nat->Int) (n:Nat) (q:Rat):Rat.divInt (hN z (tl z n) q.num q.den (tl z n-1)) (((q.den:Nat):Int) ^ (tl z n-1))=ev q n z:=by
 rw [Rm (x:=q) (Rn q) (by have:=q.den_nz;omega),tE,mo]
theorem BQ {d:Int} (hd:d≠0) (t:Rat) (z:Nat->Int) (n:Nat) (u:Int):ev t (mvL z n u d).length (an (mvL z n u d))=(d:Rat) ^ (tl z n-1)*ev (t+u / d) n z:=by
 have h0:(d:Rat)≠0:=by exact_mod_cast hd
 rw [j7,gx (y:=fun i=>mvS z n u d (tl z n) i*d ^ i) fun i hi=>t7 hi,xp]
 unfold mvS
 rw [IM]
 unfold iE
 rw [xq (x:=t+u / d) (by grind),tE,mo]
end Go.Proofs.YthmcngjhkmpneaaGreat.Sym
