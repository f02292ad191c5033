/- Plain facts on numbers a -/
import GoSem.Claim
import Derived.WalkKit
import Derived.Laws.BitsAllLaws
import Derived.Outline
import Derived.Lib.Hide
import Derived.Laws.CopyOwn
import Derived.Test.YtlmanbjkkjfjgaaGreatProg
import Derived.Lib.BitFns
import Derived.Deep.QuietTactic
import Derived.BigQuiet
import Derived.Lib.AppendZerosOnto
namespace Go.Proofs.YtlmanbjkkjfjgaaGreat
open Go.Proofs.Tryz
open Lib (hid)
open Go.RowKit
variable {B D P b cap cy g i j k m n off q t x z:Nat}{R Y Z xs ys:List Nat}{c:Nat->Value}{a w w':World}{f p y:Nat->Nat}{d:Int}{e:TypeId}{v:Value}
def nth (xs:List Nat) (j:Nat):Nat:=xs.getD j 0
theorem pB (xs:List Nat) (h:j<xs.length):xs[j]=nth xs j:=by simp [nth,h]
theorem Mg (xs:List Nat) (h:j<xs.length):xs[j]?=some (nth xs j):=by simp [nth,h]
theorem eV (xs:List Nat) (h:xs.length<=j:=by omega):nth xs j=0:=by simp [nth,h]
theorem aej (xs:List Nat) (h:j<xs.length):nth xs j ∈ xs:=by rw [<- pB xs h];exact List.getElem_mem h
theorem qY (xs ys:List Nat) (h:j<xs.length):nth (xs ++ ys) j=nth xs j:=by simp [nth,List.getElem?_append,h]
theorem mo (xs ys:List Nat) (h:xs.length<=j:=by omega):nth (xs ++ ys) j=nth ys (j-xs.length):=by simp [nth,List.getElem?_append_right h]
theorem Wi (xs:List Nat) (y:Nat):nth (xs ++ [y]) xs.length=y:=by simp [nth]
theorem fZ (xs:List Nat) (h:j<k):nth (xs.take k) j=nth xs j:=by simp [nth,h]
theorem jV (xs:List Nat) (k j:Nat):nth (xs.drop k) j=nth xs (k+j):=by simp [nth,List.getElem?_drop]
theorem JF (xs:List Nat) (h:k<xs.length):xs.take (k+1)=xs.take k ++ [nth xs k]:=by rw [List.take_add_one,List.getElem?_eq_getElem h,pB xs h];rfl
theorem qN (xs:List Nat) (h:k<xs.length:=by omega):xs.drop k=nth xs k :: xs.drop (k+1):=by rw [List.drop_eq_getElem_cons h,pB xs h]
theorem xV  (hl:xs.length=ys.length) (h:∀j,j<xs.length->nth xs j=nth ys j):xs=ys:=by apply List.ext_getElem hl;intro j h1 h2;rw [pB xs h1,pB ys h2,h j h1]
def All (b:Nat) (xs:List Nat):Prop:=∀x,x ∈ xs->x<b
theorem All.nth  (h:All b xs) (hj:j<xs.length):nth xs j<b:=h _ (aej xs hj)
theorem All.of  (h:∀j,j<xs.length->Go.Proofs.YtlmanbjkkjfjgaaGreat.nth xs j<b):All b xs:=by intro x hx;obtain ⟨j,hj,rfl⟩:=List.getElem_of_mem hx;rw [pB xs hj];exact h j hj
theorem All.nil (b:Nat):All b []:=λ_ h=>by cases h
theorem All.cons  (hx:x<b) (h:All b xs):All b (x :: xs):=by
 intro y hy;rcases List.mem_cons.1 hy with rfl | hy
 ·exact hx
 ·exact h y hy
theorem All.head  (h:All b (x :: xs)):x<b:=h x (by simp)
theorem All.tail  (h:All b (x :: xs)):All b xs:=λy hy=>h y (by simp [hy])
theorem All.app  (h:All b xs) (k:All b ys):All b (xs ++ ys):=by
 intro y hy;rcases List.mem_append.1 hy with hy | hy
 ·exact h y hy
 ·exact k y hy
theorem All.take  (h:All b xs) (k:Nat):All b (xs.take k):=λy hy=>h y (List.mem_of_mem_take hy)
theorem All.drop  (h:All b xs) (k:Nat):All b (xs.drop k):=λy hy=>h y (List.mem_of_mem_drop hy)
theorem All.mono {c:Nat} (h:All b xs) (hc:b<=c):All c xs:=λy hy=>Nat.lt_of_lt_of_le (h y hy) hc
theorem All.no  (h:x<b) (n:Nat):All b (List.replicate n x):=λy hy=>by rw [(List.mem_replicate.1 hy).2];exact h
def val (b:Nat):List Nat->Nat
 | []=>0
 | x :: xs=>x+b*val b xs
theorem adS (b:Nat) (xs ys:List Nat):val b (xs ++ ys)=val b xs+b ^ xs.length*val b ys:=by
 induction xs with
 | nil=>simp [val]
 | cons x xs ih=>simp only [List.cons_append,val,ih,List.length_cons,Nat.pow_succ,Nat.mul_add];rw [Nat.mul_comm (b ^ xs.length) b,Nat.mul_assoc];omega
theorem pg (b:Nat) (xs:List Nat) (y:Nat):val b (xs ++ [y])=val b xs+b ^ xs.length*y:=by rw [adS];simp [val]
theorem jX (b:Nat) (xs:List Nat) (h:k<xs.length:=by omega):val b (xs.take (k+1))=val b (xs.take k)+b ^ k*nth xs k:=by rw [JF xs h,pg,List.length_take,Nat.min_eq_left (by omega)]
theorem gx (b:Nat) (xs:List Nat) (h:k<=xs.length:=by omega):val b xs=val b (xs.take k)+b ^ k*val b (xs.drop k):=by have e:=adS b (xs.take k) (xs.drop k);rw [List.take_append_drop,List.length_take,Nat.min_eq_left h] at e;exact e
theorem fJ (b:Nat) (xs:List Nat) (h:k<xs.length):val b (xs.drop k)=nth xs k+b*val b (xs.drop (k+1)):=by rw [qN xs (h:=h)];rfl
theorem lW (b n:Nat):val b (List.replicate n 0)=0:=by
 induction n with
 | zero=>rfl
 | succ n ih=>simp [List.replicate_succ,val,ih]
theorem ff  (h:All b xs):val b xs<b ^ xs.length:=by
 induction xs with
 | nil=>simp [val]
 | cons x xs ih=>
  have h1:=h.head;have h2:=ih h.tail;simp only [val,List.length_cons,Nat.pow_succ];have h3:b*(val b xs+1)<=b*b ^ xs.length:=Nat.mul_le_mul_left b h2;rw [Nat.mul_comm (b ^ xs.length) b];rw [Nat.mul_add] at h3;omega
def gU (b:Nat):Nat->Nat->List Nat
 | 0,_=>[]
 | f+1,n=>if n=0 then [] else n % b :: gU b f (n / b)
def an (b n:Nat):List Nat:=gU b n n
theorem aek  (hb:2<=b):∀f g n:Nat,n<=f->n<=g->gU b f n=gU b g n:=by
 intro f
 induction f with
 | zero=>
  intro g n h1 h2;obtain rfl:n=0:=by omega
  cases g <;> simp [gU]
 | succ f ih=>
  intro g n h1 h2;by_cases h0:n=0
  ·subst h0;cases g <;> simp [gU]
  ·cases g with
   | zero=>omega
   | succ g=>
    have hd:n / b<n:=Nat.div_lt_self (by omega) (by omega);simp only [gU,if_neg h0];rw [ih g (n / b) (by omega) (by omega)]
theorem jW (b:Nat):an b 0 = []:=rfl
theorem jv  (hb:2<=b) (h:0<n):an b n=n % b :: an b (n / b):=by
 cases n with
 | zero=>omega
 | succ n=>
  have hd:(n+1) / b<n+1:=Nat.div_lt_self (by omega) (by omega);simp only [an,gU,if_neg (Nat.succ_ne_zero n)];rw [aek hb n ((n+1) / b) ((n+1) / b) (by omega) (by omega)]
theorem zh  (hb:2<=b){P:Nat->Prop} (h0:P 0) (h:∀n,0<n->P (n / b)->P n):∀n,P n:=by
 have aux:∀m n,n<=m->P n:=by
  intro m
  induction m with
  | zero=>intro n hn;obtain rfl:n=0:=(by omega);exact h0
  | succ m ih=>
   intro n hn;by_cases hz:n=0
   ·subst hz;exact h0
   ·have hd:n / b<n:=Nat.div_lt_self (by omega) (by omega);exact h n (by omega) (ih _ (by omega))
 exact λn=>aux n n (Nat.le_refl n)
theorem dj  (hb:2<=b):∀n,val b (an b n)=n:=by refine zh hb rfl ?_;intro n hn ih;rw [jv hb hn,val,ih];exact Nat.mod_add_div n b
theorem fg  (hb:2<=b):∀n,All b (an b n):=by refine zh hb (All.nil b) ?_;intro n hn ih;rw [jv hb hn];exact All.cons (Nat.mod_lt _ (by omega)) ih
def jr (xs:List Nat):Prop:=xs = []∨nth xs (xs.length-1)≠0
theorem jr.tail  (h:jr (x :: xs)):jr xs:=by
 cases xs with
 | nil=>exact .inl rfl
 | cons y ys=>
  refine .inr ?_;rcases h with h | h
  ·cases h
  ·simpa [nth] using h
theorem Gs  (h:jr xs) (hne:xs ≠ []) (hb:0<b:=by omega):0<val b xs:=by
 induction xs with
 | nil=>exact absurd rfl hne
 | cons x xs ih=>
  cases xs with
  | nil=>
   rcases h with h | h
   ·cases h
   ·simp [nth] at h;simp [val];omega
  | cons y ys=>
   have h1:=ih h.tail (by simp);simp only [val] at h1 ⊢;have h2:0<b*(y+b*val b ys):=Nat.mul_pos hb h1;omega
theorem tv  (hb:2<=b):∀n,jr (an b n):=by
 refine zh hb (.inl rfl) ?_;intro n hn ih;rw [jv hb hn];refine .inr ?_;by_cases hq:n / b=0
 ·rw [hq,jW];have:n % b=n:=Nat.mod_eq_of_lt (by
   rcases Nat.lt_or_ge n b with h | h
   ·exact h
   ·have:=Nat.div_pos h (by omega:0<b);omega)
  simp [nth,this];omega
 ·rw [jv hb (Nat.pos_of_ne_zero hq)] at ih ⊢;rcases ih with h | h
  ·cases h
  ·simpa [nth] using h
theorem xJ  (ha:All b xs) (ht:jr xs) (hb:2<=b:=by omega):an b (val b xs)=xs:=by
 induction xs with
 | nil=>rfl
 | cons x xs ih=>
  have hp:=Gs (b:=b) ht (by simp);rw [jv hb hp];have hx:=ha.head;have e1:val b (x :: xs) % b=x:=by simp only [val];rw [Nat.add_mul_mod_self_left,Nat.mod_eq_of_lt hx]
  have e2:val b (x :: xs) / b=val b xs:=by simp only [val];rw [Nat.add_mul_div_left _ _ (by omega),Nat.div_eq_of_lt hx];omega
  rw [e1,e2,ih ha.tail ht.tail]
def eW (xs:List Nat):Nat->Nat
 | 0=>0
 | k+1=>if nth xs k=0 then eW xs k else k+1
theorem gO (xs:List Nat) (k:Nat):eW xs k<=k:=by
 induction k with
 | zero=>exact Nat.le_refl _
 | succ k ih=>unfold eW;split <;> omega
theorem ael (xs:List Nat) (k:Nat):eW xs k=0∨nth xs (eW xs k-1)≠0:=by
 induction k with
 | zero=>exact .inl rfl
 | succ k ih=>
  unfold eW;split
  ·exact ih
  ·exact .inr (by simpa)
theorem JG (b:Nat) (xs:List Nat) (k:Nat) (h:k<=xs.length):val b (xs.take (eW xs k))=val b (xs.take k):=by
 induction k with
 | zero=>rfl
 | succ k ih=>
  unfold eW;split
  ·rename_i h0;rw [ih (by omega),jX b xs,h0];simp
  ·rfl
def trim (xs:List Nat):List Nat:=xs.take (eW xs xs.length)
theorem eX (xs:List Nat):(trim xs).length=eW xs xs.length:=by rw [trim,List.length_take,Nat.min_eq_left (gO _ _)]
theorem eC  (h:All b xs) (hb:2<=b:=by omega):trim xs=an b (val b xs):=by
 have e:val b (trim xs)=val b xs:=by
  have:=JG b xs xs.length (Nat.le_refl _)
  rwa [List.take_length] at this
 have t:jr (trim xs):=by
  rcases ael xs xs.length with h0 | h0
  ·exact .inl (by rw [trim,h0];rfl)
  ·by_cases hz:eW xs xs.length=0
   ·exact .inl (by rw [trim,hz];rfl)
   ·refine .inr ?_;rw [eX,trim,fZ _ (by omega)];exact h0
 have k:=xJ (hb:=hb) (h.take (eW xs xs.length)) (show jr (xs.take (eW xs xs.length)) from t);rw [<- e];exact k.symm
theorem iq  (hb:2<=b) (k:Nat):∀n,n<b ^ k->(an b n).length<=k:=by
 induction k with
 | zero=>intro n h;obtain rfl:n=0:=(by simpa using h);simp [jW]
 | succ k ih=>
  intro n h;by_cases h0:n=0
  ·subst h0;simp [jW]
  ·rw [jv hb (by omega),List.length_cons];have:=ih (n / b) (by rw [Nat.div_lt_iff_lt_mul (by omega)];rwa [Nat.pow_succ] at h);omega
theorem jm  (n:Nat) (hb:2<=b:=by omega):n<b ^ (an b n).length:=by
 have:=ff (fg hb n)
 rwa [dj hb] at this
theorem JH  (hb:2<=b) (h:k<(an b n).length):b ^ k<=n:=by
 rcases Nat.lt_or_ge n (b ^ k) with h1 | h1
 ·have:=iq hb k n h1;omega
 ·exact h1
theorem pf  (h:(an b m).length<(an b n).length) (hb:2<=b:=by omega):m<n:=
 Nat.lt_of_lt_of_le (jm (hb:=hb) m) (JH hb h)
theorem zi  (hb:2<=b:=by omega):an b n = [] ↔ n=0:=by
 constructor
 ·intro h;rw [<- dj hb n,h];rfl
 ·rintro rfl;rfl
theorem gy  (hb:2<=b:=by omega):(an b n).length=0 ↔ n=0:=by rw [List.length_eq_zero_iff,zi (hb:=hb)]
theorem JI  (hb:2<=b) (k:Nat):∀n,nth (an b n) k=n / b ^ k % b:=by
 induction k with
 | zero=>
  intro n;by_cases h0:n=0
  ·subst h0;simp [jW,nth]
  ·rw [jv hb (by omega)];simp [nth]
 | succ k ih=>
  intro n;by_cases h0:n=0
  ·subst h0;simp [jW,nth]
  ·rw [jv hb (by omega)];have:nth (n % b :: an b (n / b)) (k+1)=nth (an b (n / b)) k:=by simp [nth]
   rw [this,ih,Nat.div_div_eq_div_mul,Nat.pow_succ,Nat.mul_comm b]
theorem zj  (h0:0<n) (h:n<b) (hb:2<=b:=by omega):an b n = [n]:=by rw [jv hb h0,Nat.mod_eq_of_lt h,Nat.div_eq_of_lt h,jW]
def dq (m n:Nat):Int:=if m<n then -1 else if m=n then 0 else 1
theorem lN  (h:m<n):dq m n = -1:=by simp [dq,h]
theorem xG (n:Nat):dq n n=0:=by simp [dq]
theorem tL  (h:n<m):dq m n=1:=by unfold dq;rw [if_neg (by omega),if_neg (by omega)]
theorem gZ  (xs:List Nat):val b (trim xs)=val b xs:=by
 have:=JG b xs xs.length (Nat.le_refl _)
 rwa [List.take_length] at this
theorem tK {a c:List Nat} (hk:k<a.length) (hk':k<c.length) (hd:a.drop (k+1)=c.drop (k+1)) (ha:All b a)
  (h:nth a k<nth c k):val b a<val b c:=by
 have e1:=gx b a (k:=k);have e2:=gx b c (k:=k);rw [fJ b a hk,hd] at e1;rw [fJ b c hk'] at e2;have l1:=ff (ha.take k);rw [List.length_take,Nat.min_eq_left (by omega)] at l1;have m1:b ^ k*(nth a k+1)<=b ^ k*nth c k:=Nat.mul_le_mul_left _ h;rw [Nat.mul_add] at m1 e1 e2;omega
def pre (f:Nat->Nat) (k:Nat):List Nat:=(List.range k).map f
theorem dW (f:Nat->Nat) (k:Nat):(pre f k).length=k:=by simp [pre]
theorem fR (f:Nat->Nat) (h:j<k):nth (pre f k) j=f j:=by simp [nth,pre,h]
theorem zk (f:Nat->Nat) (k:Nat):pre f (k+1)=pre f k ++ [f k]:=by simp [pre,List.range_succ]
theorem ft (b:Nat) (f:Nat->Nat) (k:Nat):val b (pre f (k+1))=val b (pre f k)+b ^ k*f k:=by rw [zk,pg,dW]
theorem gJ  (h:∀j,j<k->f j<b):All b (pre f k):=by refine All.of λj hj=>?_;rw [dW] at hj;rw [fR f hj];exact h j hj
theorem TN {g:Nat->Nat} (h:∀j,j<k->f j=g j):pre f k=pre g k:=by refine xV (by rw [dW,dW]) λj hj=>?_;rw [dW] at hj;rw [fR f hj,fR g hj,h j hj]
theorem xn (xs:List Nat) (h:k<=xs.length):pre (nth xs) k=xs.take k:=by refine xV (by rw [dW,List.length_take,Nat.min_eq_left h]) λj hj=>?_;rw [dW] at hj;rw [fR _ hj,fZ _ hj]
theorem EN (xs:List Nat):pre (nth xs) xs.length=xs:=by rw [xn xs (Nat.le_refl _),List.take_length]
theorem fi (b:Nat) (xs:List Nat) (h:xs.length<=k):val b (pre (nth xs) k)=val b xs:=by
 obtain ⟨d,rfl⟩:∃d,k=xs.length+d:=⟨k-xs.length,by omega⟩
 induction d with
 | zero=>rw [Nat.add_zero,EN]
 | succ d ih=>rw [<- Nat.add_assoc,ft,ih (by omega),eV xs];simp
def adR (b:Nat) (f g:Nat->Nat):Nat->Nat
 | 0=>0
 | k+1=>(adR b f g k+(f k+g k)) / b
def eK (b:Nat) (f g:Nat->Nat) (k:Nat):Nat:=(adR b f g k+(f k+g k)) % b
theorem xH {g:Nat->Nat} (hf:∀j,f j<b) (hg:∀j,g j<b) (k:Nat):adR b f g k<=1:=by
 induction k with
 | zero=>simp [adR]
 | succ k ih=>
  have h1:=hf k;have h2:=hg k;have h3:adR b f g k+(f k+g k)<b*2:=by omega
  have h4:=Nat.div_lt_of_lt_mul h3;simp only [adR];omega
theorem tN  (f g:Nat->Nat) (k:Nat) (hb:0<b:=by omega):eK b f g k<b:=Nat.mod_lt _ hb
theorem qO (b:Nat) (f g:Nat->Nat) (k:Nat):val b (pre (eK b f g) k)+b ^ k*adR b f g k=val b (pre f k)+val b (pre g k):=by
 induction k with
 | zero=>simp [pre,val,adR]
 | succ k ih=>
  rw [ft,ft,ft];have e:b ^ (k+1)*adR b f g (k+1)+b ^ k*eK b f g k=b ^ k*(adR b f g k+(f k+g k)):=by simp only [adR,eK];rw [Nat.pow_succ,Nat.mul_assoc,<- Nat.mul_add,Nat.div_add_mod]
  rw [Nat.mul_add,Nat.mul_add] at e;omega
theorem cm  (hb:0<b) (h:All b xs) (j:Nat):nth xs j<b:=by
 by_cases hj:j<xs.length
 ·exact h.nth hj
 ·rw [eV xs];exact hb
def gj (f:Nat->Nat):Nat->Nat
 | 0=>0
 | k+1=>max (gj f k) (f k)
def jU (f:Nat->Nat):Nat->Nat
 | 0=>0
 | k+1=>jU f k+f k
theorem Vd (f:Nat->Nat) (h:j<k):f j<=gj f k:=by
 induction k with
 | zero=>omega
 | succ k ih=>
  simp only [gj];by_cases e:j=k
  ·subst e;exact Nat.le_max_right _ _
  ·exact Nat.le_trans (ih (by omega)) (Nat.le_max_left _ _)
theorem UX (f:Nat->Nat) (h:∀j,j<k->f j<=m):gj f k<=m:=by
 induction k with
 | zero=>exact Nat.zero_le _
 | succ k ih=>exact Nat.max_le.2 ⟨ih λj hj=>h j (by omega),h k (by omega)⟩
theorem Vb (f:Nat->Nat) (k:Nat) (h:gj f k≠0):∃j,j<k∧gj f k=f j:=by
 induction k with
 | zero=>exact absurd rfl h
 | succ k ih=>
  simp only [gj] at h ⊢;rcases Nat.le_total (gj f k) (f k) with h1 | h1
  ·exact ⟨k,by omega,Nat.max_eq_right h1⟩
  ·rw [Nat.max_eq_left h1] at h ⊢;obtain ⟨j,hj,e⟩:=ih h;exact ⟨j,by omega,e⟩
theorem Vc (f:Nat->Nat) (h:j<k):f j<=jU f k:=by
 induction k with
 | zero=>omega
 | succ k ih=>
  simp only [jU];by_cases e:j=k
  ·subst e;omega
  ·have:=ih (by omega);omega
theorem FM  (ha:All b xs) (hv:xs = []∨b ^ (xs.length-1)<=val b xs):jr xs:=by
 by_cases hn:xs = []
 ·exact .inl hn
 ·refine .inr λh0=>?_;rcases hv with hv | hv
  ·exact hn hv
  have hl:0<xs.length:=List.length_pos_iff.2 hn;have e:=gx b xs (k:=xs.length-1);rw [fJ b xs (by omega),h0,show xs.length-1+1=xs.length by omega,List.drop_length] at e;have l:=ff (ha.take (xs.length-1));rw [List.length_take,Nat.min_eq_left (by omega)] at l;simp only [val,Nat.mul_zero,Nat.add_zero] at e;omega
theorem xL  (hb:2<=b:=by omega) (h:(an b n).length≠0:=by omega):b ^ ((an b n).length-1)<=n:=JH hb (by omega)
def bM (f g:Nat->Nat):Nat->Nat
 | 0=>0
 | k+1=>if f k<g k+bM f g k then 1 else 0
def gB (b:Nat) (f g:Nat->Nat) (k:Nat):Nat:=(f k+b*bM f g (k+1))-(g k+bM f g k)
theorem qU (f g:Nat->Nat) (k:Nat):bM f g k<=1:=by
 cases k with
 | zero=>simp [bM]
 | succ k=>simp only [bM];split <;> omega
theorem tQ {g:Nat->Nat} (hg:∀j,g j<b) (k:Nat):gB b f g k+(g k+bM f g k)=f k+b*bM f g (k+1):=by
 have h1:=qU f g k;have h2:=hg k;simp only [gB,bM];split
 ·rw [Nat.mul_one];omega
 ·rw [Nat.mul_zero];omega
theorem xO {g:Nat->Nat} (hf:∀j,f j<b) (k:Nat):gB b f g k<b:=by
 have h2:=hf k;simp only [gB,bM];split
 ·rw [Nat.mul_one];omega
 ·rw [Nat.mul_zero];omega
theorem JJ {g:Nat->Nat} (hg:∀j,g j<b) (k:Nat):val b (pre (gB b f g) k)+val b (pre g k)=val b (pre f k)+b ^ k*bM f g k:=by
 induction k with
 | zero=>simp [pre,val,bM]
 | succ k ih=>
  rw [ft,ft,ft];have e:=congrArg (λx=>b ^ k*x) (tQ hg k:gB b f g k+(g k+bM f g k)=f k+b*bM f g (k+1));simp only [Nat.mul_add] at e;rw [Nat.pow_succ,Nat.mul_assoc];omega
theorem FQ  (ax:All b xs) (ay:All b ys) (h0:0<b) (hl:ys.length<=xs.length) (h:val b ys<=val b xs):bM (nth xs) (nth ys) xs.length=0:=by
 have e:=JJ (f:=nth xs) (cm h0 ay) xs.length;rw [fi _ xs (Nat.le_refl _),fi _ ys hl] at e;have l:=ff (gJ (k:=xs.length) (λj _=>xO (g:=nth ys) (cm h0 ax) j));rw [dW] at l;have c:=qU (nth xs) (nth ys) xs.length;by_cases hc:bM (nth xs) (nth ys) xs.length=0
 ·exact hc
 ·rw [show bM (nth xs) (nth ys) xs.length=1 by omega] at e;omega
theorem FR  (ax:All b xs) (ay:All b ys) (hl:ys.length<=xs.length) (h:val b ys<=val b xs) (h0:0<b:=by omega) :
  val b (pre (gB b (nth xs) (nth ys)) xs.length)=val b xs-val b ys:=by
 have e:=JJ (f:=nth xs) (cm h0 ay) xs.length;rw [fi _ xs (Nat.le_refl _),fi _ ys hl,FQ ax ay h0 hl h] at e;omega
theorem JK  (h:bM (nth xs) (nth ys) k=0) (hk:ys.length<=k) (j:Nat):bM (nth xs) (nth ys) (k+j)=0:=by
 induction j with
 | zero=>exact h
 | succ j ih=>
  rw [<- Nat.add_assoc];simp only [bM];rw [ih,eV ys];simp
theorem Vj  (h:bM (nth xs) (nth ys) k=0) (hk:ys.length<=k) (hj:k<=j:=by omega):gB b (nth xs) (nth ys) j=nth xs j:=by obtain ⟨d,rfl⟩:∃d,j=k+d:=⟨j-k,by omega⟩;simp only [gB];rw [JK h hk d,Nat.add_assoc,JK h hk (d+1),eV ys];simp
def chC (b:Nat) (s:Nat->Nat) (c0:Nat):Nat->Nat
 | 0=>c0
 | k+1=>(chC b s c0 k+s k) / b
def iu (b:Nat) (s:Nat->Nat) (c0 k:Nat):Nat:=(chC b s c0 k+s k) % b
theorem xR (b:Nat) (s:Nat->Nat) (c0 k:Nat):val b (pre (iu b s c0) k)+b ^ k*chC b s c0 k=c0+val b (pre s k):=by
 induction k with
 | zero=>simp [pre,val,chC]
 | succ k ih=>
  rw [ft,ft];have e:b ^ (k+1)*chC b s c0 (k+1)+b ^ k*iu b s c0 k=b ^ k*(chC b s c0 k+s k):=by simp only [chC,iu];rw [Nat.pow_succ,Nat.mul_assoc,<- Nat.mul_add,Nat.div_add_mod]
  rw [Nat.mul_add] at e;omega
theorem xQ  (s:Nat->Nat) (c0 k:Nat) (hb:0<b:=by omega):iu b s c0 k<b:=Nat.mod_lt _ hb
theorem val_mul (b m:Nat) (f:Nat->Nat) (k:Nat):val b (pre (λj=>f j*m) k)=val b (pre f k)*m:=by
 induction k with
 | zero=>simp [pre,val]
 | succ k ih=>rw [ft,ft,ih,Nat.add_mul,Nat.mul_assoc]
theorem val_add (b:Nat) (f g:Nat->Nat) (k:Nat):val b (pre (λj=>f j+g j) k)=val b (pre f k)+val b (pre g k):=by
 induction k with
 | zero=>simp [pre,val]
 | succ k ih=>rw [ft,ft,ft,ih,Nat.mul_add];omega
theorem xP {s:Nat->Nat}{c0:Nat} (hs:∀j,s j+m<=b*m) (k:Nat) (h0:c0<m:=by omega):chC b s c0 k<m:=by
 induction k with
 | zero=>exact h0
 | succ k ih=>
  simp only [chC];have:=hs k;exact Nat.div_lt_of_lt_mul (by omega)
theorem Vo  (h:x<b):x*m+m<=b*m:=by have:=Nat.mul_le_mul_right m (show x+1<=b from h);rw [Nat.add_mul,Nat.one_mul] at this;exact this
theorem Vr {d:Nat} (hd:0<d) (hdb:b % d=0) (xs:List Nat) (hb:2<=b:=by omega) (hi:i<xs.length:=by omega) :
  (nth xs (i+1)*b+nth xs i) / d % b=nth (an b (val b xs / d)) i∨¬All b xs:=by
 by_cases ha:All b xs
 ·refine .inl ?_;rw [JI hb,Nat.div_div_eq_div_mul,Nat.mul_comm d,<- Nat.div_div_eq_div_mul];have e1:val b xs / b ^ i=val b (xs.drop i):=by
   rw [gx b xs (k:=i)];have l:=ff (ha.take i);rw [List.length_take,Nat.min_eq_left (by omega)] at l;rw [Nat.add_mul_div_left _ _ (Nat.pow_pos (by omega)),Nat.div_eq_of_lt l,Nat.zero_add]
  rw [e1,fJ b xs hi];obtain ⟨q,hq⟩:∃q,b=d*q:=⟨b / d,(Nat.mul_div_cancel' (Nat.dvd_of_mod_eq_zero hdb)).symm⟩;have e2:val b (xs.drop (i+1))=nth xs (i+1)+b*val b (xs.drop (i+2)):=by
   by_cases h:i+1<xs.length
   ·exact fJ b xs h
   ·rw [List.drop_of_length_le (by omega),List.drop_of_length_le (by omega),eV xs];rfl
  rw [e2];generalize val b (xs.drop (i+2))=R;generalize nth xs (i+1)=y;generalize nth xs i=x;have e3:x+b*(y+b*R)=(y*b+x)+d*(b*(q*R)):=by
   have:b*(b*R)=d*(b*(q*R)):=by
    calc b*(b*R)=b*((d*q)*R):=by rw [<- hq]
     _=d*(b*(q*R)):=by rw [Nat.mul_assoc,Nat.mul_left_comm]
   rw [Nat.mul_add,this,Nat.mul_comm b y];omega
  rw [e3,Nat.add_mul_div_left _ _ hd,Nat.add_mul_mod_self_left]
 ·exact .inr ha
theorem Vt  (h1:b ^ k<=n) (h2:n<b ^ (k+1)) (hb:2<=b:=by omega):(an b n).length=k+1:=by
 have h3:=iq hb (k+1) n h2;rcases Nat.lt_or_ge k (an b n).length with h | h
 ·omega
 ·have:=jm (hb:=hb) n;have h4:b ^ (an b n).length<=b ^ k:=Nat.pow_le_pow_right (by omega) h;omega
theorem TD  (ha:All b xs) (hk:k<=xs.length):val b (xs.drop k)=val b xs / b ^ k:=by rw [gx b xs (h:=hk)];have l:=ff (ha.take k);rw [List.length_take,Nat.min_eq_left hk] at l;rw [Nat.add_mul_div_left _ _ (by omega),Nat.div_eq_of_lt l,Nat.zero_add]
def patch (Y Z:List Nat) (k n cy:Nat):List Nat:=Y.take k ++ (Z ++ (cy :: Y.drop (k+n+1)))
theorem VL  (h:k+n<Y.length) (hZ:Z.length=n):(patch Y Z k n cy).length=Y.length:=by simp [patch,hZ];omega
theorem VD  (hj:j<k) (h:k+n<Y.length:=by omega):nth (patch Y Z k n cy) j=nth Y j:=by rw [patch,qY _ _ (by rw [List.length_take];omega),fZ _ hj]
theorem VE  (hZ:Z.length=n) (h:k+n<Y.length:=by omega) (hj:j<n:=by omega):nth (patch Y Z k n cy) (k+j)=nth Z j:=by
 have ht:(Y.take k).length=k:=by rw [List.length_take];omega
 rw [patch,mo _ _,ht,Nat.add_sub_cancel_left,qY _ _ (by omega)]
theorem VC  (hZ:Z.length=n) (h:k+n<Y.length:=by omega):nth (patch Y Z k n cy) (k+n)=cy:=by
 have ht:(Y.take k).length=k:=by rw [List.length_take];omega
 rw [patch,mo _ _,ht,Nat.add_sub_cancel_left,mo _ _,hZ,Nat.sub_self];simp [nth]
theorem VF  (hZ:Z.length=n) (h:k+n<Y.length:=by omega) (hj:k+n<j:=by omega):nth (patch Y Z k n cy) j=nth Y j:=by
 have ht:(Y.take k).length=k:=by rw [List.length_take];omega
 rw [patch,mo _ _,ht,mo _ _,hZ];obtain ⟨i,rfl⟩:∃i,j=k+n+1+i:=⟨j-(k+n+1),by omega⟩;rw [show k+n+1+i-k-n=i+1 by omega];have:nth (cy :: Y.drop (k+n+1)) (i+1)=nth (Y.drop (k+n+1)) i:=by simp [nth]
 rw [this,jV]
theorem VK  (aY:All b Y) (aZ:All b Z) (hc:cy<b):All b (patch Y Z k n cy):=
 (aY.take k).app (aZ.app (All.cons hc (aY.drop _)))
theorem aem  (h:k+n<Y.length) (hZ:Z.length=n):(patch Y Z k n cy).drop (k+n+1)=Y.drop (k+n+1):=by
 have ht:(Y.take k).length=k:=by rw [List.length_take];omega
 rw [patch,List.drop_append,ht,List.drop_of_length_le (by omega),List.nil_append,List.drop_append,hZ,List.drop_of_length_le (by omega),List.nil_append];rw [show k+n+1-k-n=1 by omega,List.drop_succ_cons,List.drop_zero]
theorem VI {T:Nat} (h:k+n<Y.length) (hz:val b (Y.drop (k+n))=0) (hZ:Z.length=n)
  (hb:0<b:=by omega) (hv:val b Z+b ^ n*cy=T+val b ((Y.drop k).take n):=by omega):val b (patch Y Z k n cy)=val b Y+b ^ k*T∧val b ((patch Y Z k n cy).drop (k+1+n))=0:=by
 have ht:(Y.take k).length=k:=by rw [List.length_take];omega
 have e0:=fJ b Y (k:=k+n) h;rw [hz] at e0;have z1:val b (Y.drop (k+n+1))=0:=by
  rcases Nat.eq_zero_or_pos (val b (Y.drop (k+n+1))) with h1 | h1
  ·exact h1
  ·have:=Nat.mul_pos hb h1;omega
 constructor
 ·have e1:=gx b Y (k:=k);have e2:=gx b (Y.drop k) (k:=n) (h:=(by rw [List.length_drop];omega));rw [List.drop_drop,hz] at e2;rw [patch,adS,adS,ht,hZ];simp only [val,z1,Nat.mul_zero,Nat.add_zero] at e2 ⊢;rw [hv,e1,e2,Nat.mul_add];omega
 ·rw [show k+1+n=k+n+1 by omega,aem h hZ,z1]
theorem pi  (t:Nat) (h:k<xs.length):nth (xs.set k t) k=t:=by simp [nth,h]
theorem tR (xs:List Nat) (t:Nat) (h:j≠k):nth (xs.set k t) j=nth xs j:=by simp [nth,List.getElem?_set_ne (show k≠j from λe=>h e.symm)]
theorem All.set  (h:All b xs) (ht:t<b) (k:Nat):All b (xs.set k t):=by
 intro y hy;rcases List.mem_or_eq_of_mem_set hy with h1 | h1
 ·exact h y h1
 ·subst h1;exact ht
theorem qW  (t:Nat) (h:k<xs.length):val b ((xs.set k t).drop k)=t+b*val b (xs.drop (k+1)):=by rw [fJ b _ (by rw [List.length_set];exact h),pi t h,List.drop_set_of_lt (by omega)]
theorem JL :dq m n<=0 ↔ m<=n:=by
 unfold dq;rcases Nat.lt_trichotomy m n with h | h | h
 ·rw [if_pos h];omega
 ·subst h;simp
 ·rw [if_neg (by omega),if_neg (by omega)];omega
theorem xr  (h:n<=m):0<=dq m n:=by unfold dq;rw [if_neg (by omega)];split <;> omega
def ej (b:Nat) (p y:Nat->Nat) (x:Nat):Nat->Nat
 | 0=>0
 | k+1=>(ej b p y x k+x*y k) / b+if p k<(ej b p y x k+x*y k) % b then 1 else 0
def nw (b:Nat) (p y:Nat->Nat) (x k:Nat):Nat:=
 if p k<(ej b p y x k+x*y k) % b then p k+b-(ej b p y x k+x*y k) % b else p k-(ej b p y x k+x*y k) % b
theorem aen  (hb:0<b) (p y:Nat->Nat) (x k:Nat):nw b p y x k+(ej b p y x k+x*y k)=p k+b*ej b p y x (k+1):=by
 simp only [nw,ej];generalize ej b p y x k+x*y k=t;have h1:=Nat.div_add_mod t b;have h2:=Nat.mod_lt t hb;rw [Nat.mul_add];split
 ·rw [Nat.mul_one];omega
 ·rw [Nat.mul_zero];omega
theorem Wf  (hx:x<b) (hy:∀j,y j<b) (k:Nat):ej b p y x k<b:=by
 induction k with
 | zero=>simp only [ej];omega
 | succ k ih=>
  simp only [ej];have h1:x*y k<=(b-1)*(b-1):=Nat.mul_le_mul (by omega) (by have:=hy k;omega);obtain ⟨d,rfl⟩:∃d,b=d+1:=⟨b-1,by omega⟩;rw [Nat.add_sub_cancel] at h1;generalize ht:ej (d+1) p y x k+x*y k=t at *
  have h2:t<=d*(d+1):=by rw [Nat.mul_add,Nat.mul_one];omega
  have h3:t / (d+1)<=d:=by
   have:=Nat.div_le_div_right (c:=d+1) h2
   rwa [Nat.mul_div_cancel _ (by omega)] at this
  split
  ·rename_i h4;by_cases h5:t / (d+1)=d
   ·have h6:=Nat.div_add_mod t (d+1);rw [h5,Nat.mul_comm] at h6;omega
   ·omega
  ·omega
theorem Wg  (hp:∀j,p j<b) (k:Nat) (hb:0<b:=by omega):nw b p y x k<b:=by have h1:=hp k;have h2:=Nat.mod_lt (ej b p y x k+x*y k) hb;simp only [nw];split <;> omega
theorem Wh  (p y:Nat->Nat) (x k:Nat) (hb:0<b:=by omega):val b (pre (nw b p y x) k)+x*val b (pre y k)=val b (pre p k)+b ^ k*ej b p y x k:=by
 induction k with
 | zero=>simp [pre,val,ej]
 | succ k ih=>
  rw [ft,ft,ft];have e:=congrArg (λz=>b ^ k*z) (aen hb p y x k);simp only [Nat.mul_add] at e;rw [Nat.mul_add,Nat.mul_left_comm x (b ^ k),Nat.pow_succ,Nat.mul_assoc];omega
def over (R Z:List Nat) (k:Nat):List Nat:=R.take k ++ (Z ++ R.drop (k+Z.length))
theorem jY  (h:k+Z.length<=R.length):(over R Z k).length=R.length:=by simp [over];omega
theorem Wp  (hR:All b R) (hZ:All b Z) (k:Nat):All b (over R Z k):=(hR.take k).app (hZ.app (hR.drop _))
theorem tV  (h:k+Z.length<=R.length:=by omega) (hj:j<Z.length:=by omega):nth (over R Z k) (k+j)=nth Z j:=by
 have ht:(R.take k).length=k:=by rw [List.length_take];omega
 rw [over,mo _ _,ht,Nat.add_sub_cancel_left,qY _ _ hj]
theorem tW  (h:k+Z.length<=R.length:=by omega) (hj:j<k∨k+Z.length<=j:=by omega):nth (over R Z k) j=nth R j:=by
 have ht:(R.take k).length=k:=by rw [List.length_take];omega
 rcases hj with hj | hj
 ·rw [over,qY _ _ (by omega),fZ _ hj]
 ·rw [over,mo _ _,ht,mo _ _,jV];congr 1;omega
theorem Wo  (hz:val b (R.drop (k+Z.length))=0) (h:k+Z.length<=R.length:=by omega):val b (over R Z k)=val b (R.take k)+b ^ k*val b Z:=by
 have ht:(R.take k).length=k:=by rw [List.length_take];omega
 rw [over,adS,adS,ht,hz];simp
theorem Gc  (hk:k+n+1<=R.length) (hD:D<b ^ n) (hv:val b R<D*b ^ (k+1)) (hb:0<b:=by omega) :
  val b R=val b (R.take k)+b ^ k*val b ((R.drop k).take (n+1))∧val b ((R.drop k).take (n+1))<D*b∧val b (R.drop (k+n+1))=0:=by
 have e1:=gx b R (k:=k);have hp:0<b ^ k:=Nat.pow_pos hb;have l1:val b (R.drop k)<D*b:=by
  have h1:b ^ k*val b (R.drop k)<b ^ k*(D*b):=by
   have:D*b ^ (k+1)=b ^ k*(D*b):=by rw [Nat.pow_succ,Nat.mul_left_comm]
   omega
  exact Nat.lt_of_mul_lt_mul_left h1
 have e2:=gx b (R.drop k) (k:=n+1) (h:=(by rw [List.length_drop];omega));rw [List.drop_drop,show k+(n+1)=k+n+1 by omega] at e2;have l2:D*b<=b ^ (n+1):=by rw [Nat.pow_succ];exact Nat.mul_le_mul_right b (Nat.le_of_lt hD)
 have z:val b (R.drop (k+n+1))=0:=by
  rcases Nat.eq_zero_or_pos (val b (R.drop (k+n+1))) with h | h
  ·exact h
  ·have:=Nat.mul_le_mul_left (b ^ (n+1)) h;omega
 rw [z,Nat.mul_zero,Nat.add_zero] at e2;exact ⟨by rw [<- e2];exact e1,by rw [<- e2];exact l1,z⟩
theorem Wt {A Q R:Nat} (ht:0<t) (h:A*t=B*t*Q+R) (hR:R<B*t):A / B=Q∧A % B=R / t:=by
 have hB:0<B:=Nat.pos_of_ne_zero (λh0=>by subst h0;omega);have e1:B*t*Q=B*Q*t:=by rw [Nat.mul_right_comm]
 have e2:B*Q<=A:=by
  have:B*Q*t<=A*t:=by omega
  exact Nat.le_of_mul_le_mul_right this ht
 obtain ⟨r,rfl⟩:∃r,A=B*Q+r:=⟨A-B*Q,by omega⟩;have e3:R=r*t:=by rw [Nat.add_mul] at h;omega
 have e4:r<B:=by rw [e3] at hR;exact Nat.lt_of_mul_lt_mul_right hR
 constructor
 ·rw [Nat.mul_add_div hB,Nat.div_eq_of_lt e4];omega
 ·rw [Nat.mul_add_mod,Nat.mod_eq_of_lt e4,e3,Nat.mul_div_cancel _ ht]
theorem mend {z2 cc M:Nat} (hD:0<D) (hq:q<=P / D+1) (hs:P<q*D) (h1:z+q*D=P+M) (h2:z2+M*cc=z+D) (hz2:z2<M) (hM:D<M):q-1=P / D∧z2=P % D:=by
 have e0:=Nat.div_add_mod P D;have e1:=Nat.mod_lt P hD;have e2:q=P / D+1:=by
  rcases Nat.lt_or_ge q (P / D+1) with h | h
  ·have:=Nat.mul_le_mul_right D (Nat.le_of_lt_succ h);rw [Nat.mul_comm (P / D)] at this;omega
  ·exact Nat.le_antisymm hq h
 subst e2;refine ⟨rfl,?_⟩;rw [Nat.add_mul,Nat.one_mul,Nat.mul_comm (P / D)] at h1;generalize P % D=r at *
 generalize D*(P / D)=x at *
 have h3:z2+M*cc=M+r:=by omega
 cases cc with
 | zero=>omega
 | succ cc=>
  rw [Nat.mul_add,Nat.mul_one] at h3;cases cc with
  | zero=>omega
  | succ cc=>rw [Nat.mul_add,Nat.mul_one] at h3;omega
theorem WF  (hD:0<D) (lo:P / D<=q) (h1:z+q*D=P):q=P / D∧z=P % D:=by
 have e0:=Nat.div_add_mod P D;have e2:q<=P / D:=by rw [Nat.le_div_iff_mul_le hD];omega
 have e3:q=P / D:=Nat.le_antisymm e2 lo;refine ⟨e3,?_⟩;rw [e3,Nat.mul_comm] at h1;omega
def aH (n d:Int):Rat:=if d=0 then Rat.divInt n 1 else Rat.divInt n d
theorem iN {n:Int} (h:d≠0):aH n d=Rat.divInt n d:=by rw [aH,if_neg h]
theorem ZH (n:Int):aH n 1=Rat.divInt n 1:=by rw [aH,if_neg (by omega)]
theorem aeo (q:Rat):aH q.num q.den=q:=by rw [iN (by have:=q.den_nz;omega),Rat.num_divInt_den]
def dO (n d:Int):Int:=if d<0 then -(Int.gcd n d:Int) else (Int.gcd n d:Int)
theorem aep {n:Int} (hd:d≠0):0<(Int.gcd n d:Int):=by have:=Int.gcd_pos_of_ne_zero_right n hd;omega
theorem mp {n:Int} (hd:d≠0:=by omega):dO n d≠0:=by have:=aep (n:=n) hd;unfold dO;split <;> omega
theorem ux (n d:Int):dO n d∣n:=by
 unfold dO;split
 ·exact Int.neg_dvd.2 (Int.gcd_dvd_left ..)
 ·exact Int.gcd_dvd_left ..
theorem uy (n d:Int):dO n d∣d:=by
 unfold dO;split
 ·exact Int.neg_dvd.2 (Int.gcd_dvd_right ..)
 ·exact Int.gcd_dvd_right ..
theorem zm {n:Int} (hd:d≠0:=by omega):n / dO n d=(Rat.divInt n d).num:=by
 rw [Rat.num_divInt,Int.gcd_comm d n];unfold dO;by_cases h:d<0
 ·rw [if_pos h,Int.sign_eq_neg_one_of_neg h,Int.ediv_neg,<- Int.neg_ediv_of_dvd (Int.gcd_dvd_left ..)];congr 1;omega
 ·rw [if_neg h,Int.sign_eq_one_of_pos (by omega),Int.one_mul]
theorem zn {n:Int} (hd:d≠0:=by omega):d / dO n d=((Rat.divInt n d).den:Int):=by
 rw [Rat.den_divInt,if_neg hd,Int.gcd_comm d n];unfold dO;rw [Int.natCast_ediv];by_cases h:d<0
 ·rw [if_pos h,Int.ediv_neg,<- Int.neg_ediv_of_dvd (Int.gcd_dvd_right ..)];congr 1;omega
 ·rw [if_neg h];congr 1;omega
theorem wt (n d:Int):(Rat.divInt n d).num.natAbs<=n.natAbs:=by
 by_cases hd:d=0
 ·subst hd;simp
 ·rw [<- zm (hd:=hd)];exact Int.natAbs_ediv_le_natAbs ..
theorem wu {n:Int} (hd:d≠0):(Rat.divInt n d).den<=d.natAbs:=by have h:=zn (n:=n) (hd:=hd);have h2:=Int.natAbs_ediv_le_natAbs d (dO n d);rw [h] at h2;simpa using h2
def mf (q r:Rat):Int:=if q<r then -1 else if q=r then 0 else 1
theorem aeq {n m e:Int} (hd:0<d) (he:0<e):Rat.divInt n d<Rat.divInt m e ↔ n*e<m*d:=by have h1:(0:Rat)<(d:Rat):=Rat.intCast_pos.2 hd;have h2:(0:Rat)<(e:Rat):=Rat.intCast_pos.2 he;rw [Rat.divInt_eq_div,Rat.divInt_eq_div,Rat.div_lt_iff h1,Rat.div_def,Rat.mul_assoc,Rat.mul_comm (e:Rat)⁻¹,<- Rat.mul_assoc,<- Rat.div_def,Rat.lt_div_iff h2,<- Rat.intCast_mul,<- Rat.intCast_mul,Rat.intCast_lt_intCast]
theorem aer {n m e:Int} (hd:0<d) (he:0<e):Rat.divInt n d=Rat.divInt m e ↔ n*e=m*d:=Rat.divInt_eq_divInt_iff (by omega) (by omega)
theorem aes (n d m e:Int):Rat.divInt n d / Rat.divInt m e=Rat.divInt (n*e) (d*m):=by rw [Rat.div_def,Rat.inv_divInt,Rat.divInt_mul_divInt]
theorem and1 (a:Int) (h:0<=a:=by omega) (h':a<18446744073709551616:=by omega):bits .and .u64 a 1=a % 2:=by rw [u64_and a 1 h h' (by omega) (by omega)];rw [show (1:Int).toNat=1 from rfl,Nat.and_one_is_mod];omega
theorem LZ (x y c:Nat) (hx:x<4294967296) (h:y+c<=x:=by omega):bits .and .u64 (((x:Int)-(y:Int)-(c:Int)) / 4294967296) 1=0:=by rw [and1 _];omega
theorem Ma (x y c:Nat) (hy:y<4294967296) (hc:c<=1) (h:x<y) :
  bits .and .u64 (IntKind.u64.wrap (IntKind.u64.wrap ((x:Int)-(y:Int))-(c:Int)) / 4294967296) 1=1:=by
 rw [IntKind.wrap_u64,IntKind.wrap_u64,and1 _];omega
theorem Mb (x y c:Nat) (hy:y<4294967296) (hc:c<=1) (h:x<y) :
  IntKind.u64.wrap (IntKind.u64.wrap ((x:Int)-(y:Int))-(c:Int)) % 4294967296=(x:Int)+4294967296-(y+c):=by
 rw [IntKind.wrap_u64,IntKind.wrap_u64];omega
theorem Mc (x y c:Nat) (hc:c<=1) (h':x<y+c) (h:y<=x:=by omega) :
  bits .and .u64 (IntKind.u64.wrap ((x:Int)-(y:Int)-(c:Int)) / 4294967296) 1=1:=by
 rw [IntKind.wrap_u64,and1 _];omega
theorem Md (x y c:Nat) (hc:c<=1) (h':x<y+c) (h:y<=x:=by omega) :
  IntKind.u64.wrap ((x:Int)-(y:Int)-(c:Int)) % 4294967296=(x:Int)+4294967296-(y+c):=by
 rw [IntKind.wrap_u64];omega
theorem rY  (h:n<32):2 ^ n<=2147483648:=Nat.pow_le_pow_right (by omega) (show n<=31 by omega)
theorem Me (cr y n:Nat) (h:cr<2 ^ n) (hn:n<32) (hy:y<4294967296):bits .or .u64 (cr:Int) (IntKind.u64.wrap ((y:Int)*2 ^ n))=((cr+y*2 ^ n:Nat):Int):=by
 have hp:=rY hn;have hm:y*2 ^ n<=4294967295*2147483648:=Nat.mul_le_mul (by omega) hp;have e:((y:Int)*2 ^ n)=((y*2 ^ n:Nat):Int):=by push_cast;rfl
 rw [e,IntKind.wrap_u64];rw [show ((y*2 ^ n:Nat):Int) % 18446744073709551616=((y*2 ^ n:Nat):Int) by omega];rw [u64_or_nat _ _ (by omega) (by omega),Nat.or_comm,nat_join n _ _ (by rw [Nat.mul_mod_left]) h];omega
theorem vo (hi lo:Nat) (h2:lo<4294967296):bits .or .u64 (IntKind.u64.wrap ((hi:Int)*4294967296)) (lo:Int)=(((hi % 4294967296)*4294967296+lo:Nat):Int):=by rw [IntKind.wrap_u64];rw [show (hi:Int)*4294967296 % 18446744073709551616=(((hi % 4294967296)*4294967296:Nat):Int) by omega];rw [u64_or_nat _ _ (by omega) (by omega),nat_join 32 _ _ (by omega) (by omega)]
theorem Mf (a n:Nat):((a:Nat):Int) / 2 ^ n=((a / 2 ^ n:Nat):Int):=by push_cast;rfl
theorem vt {y:Nat} (h1:x<4294967296) (h2:y<4294967296):x*y<=18446744065119617025:=
 Nat.le_trans (Nat.mul_le_mul (show x<=4294967295 by omega) (show y<=4294967295 by omega)) (by omega)
theorem vu {y:Nat} (h1:x<4294967296) (h2:y<4294967296):(x:Int)*(y:Int)<=18446744065119617025:=by have:=vt h1 h2;rw [<- Int.natCast_mul];omega
theorem vw (x y:Nat):0<=(x:Int)*(y:Int):=by rw [<- Int.natCast_mul];omega
def aN (w:World) (e:TypeId) (g n:Nat) (c:Nat->Value):Prop:=
 ∃cur:Array Value,w.heap[g]?=some (.cells cur e (0,0))∧cur.size=n∧∀j,j<n->cur[j]?=some (c j)
def upd (c:Nat->Value) (i:Nat) (v:Value):Nat->Value:=λj=>if j=i then v else c j
theorem kj (c:Nat->Value) (i:Nat) (v:Value):upd c i v i=v:=by simp [upd]
theorem upd_ne (c:Nat->Value) (v:Value) (h:j≠i):upd c i v j=c j:=by simp [upd,h]
theorem aN.lt  (h:aN w e g n c):g<w.heap.size:=by obtain ⟨cur,h1,_⟩:=h;exact (Array.getElem?_eq_some_iff.1 h1).1
theorem aN.cell  (h:aN w e g n c) (hj:j<n):w.cell? ⟨g,j,none⟩=some (c j):=by obtain ⟨cur,h1,h2,h3⟩:=h;simp [World.cell?,h1,h3 j hj]
theorem aN.frozen {c:Nat->Value} (h:aN w e g n c) (j:Nat):w.frozen? ⟨g,j,none⟩=false:=by obtain ⟨cur,h1,h2,h3⟩:=h;simp [World.frozen?,h1]
theorem aN.of_block  (h:aN w e g n c) (hb:w'.heap[g]?=w.heap[g]?):aN w' e g n c:=by obtain ⟨cur,h1,h2,h3⟩:=h;exact ⟨cur,hb.trans h1,h2,h3⟩
theorem aN.congr {c':Nat->Value} (h:aN w e g n c) (hc:∀j,j<n->c j=c' j):aN w e g n c':=by obtain ⟨cur,h1,h2,h3⟩:=h;exact ⟨cur,h1,h2,λj hj=>by rw [h3 j hj,hc j hj]⟩
theorem aN.drew  (h:aN w e g n c):aN w.drew e g n c:=h
theorem aN.set  (h:aN w e g n c) (i:Nat) (v:Value):aN (w.setCell ⟨g,i,none⟩ v) e g n (upd c i v):=by
 obtain ⟨cur,h1,h2,h3⟩:=h;refine ⟨cur.setIfInBounds i v,?_,by simpa using h2,λj hj=>?_⟩
 ·simp [World.setCell,Array.getElem?_modify,h1]
 ·rw [Array.getElem?_setIfInBounds];by_cases e:i=j
  ·subst e;rw [kj,if_pos rfl,if_pos (by omega)]
  ·rw [if_neg e,upd_ne _ _ (λx=>e x.symm)];exact h3 j hj
theorem aN.jA  (h:aN w e g n c){a:Addr} (ha:a.block≠g) (v:Value):aN (w.setCell a v) e g n c:=
 h.of_block (Below.heap_setCell _ _ _ _ (λx=>ha x.symm))
theorem aN.alloc  (h:aN w e g n c) (o:Obj):aN (w.alloc o) e g n c:=
 h.of_block (Below.heap_alloc _ _ _ h.lt)
theorem aN.made (w:World) (cur:Array Value) (e:TypeId) (c:Nat->Value) (h:∀j,j<cur.size->cur[j]?=some (c j)):aN (w.alloc (.cells cur e)) e w.heap.size cur.size c:=
 ⟨cur,heap_alloc_new w _,rfl,h⟩
theorem bH (w:World) (row:Option Nat):w.grownBy w row:=⟨rfl,rfl,rfl,Nat.le_refl _,λ_ _ _=>rfl⟩
theorem bf {b c:World}{row:Option Nat} (h:a.grownBy b row) (k:b.grownBy c row):a.grownBy c row:=
 ⟨k.os.trans h.os,k.tape.trans h.tape,k.output.trans h.output,Nat.le_trans h.size k.size,
  λi hi hne=>(k.block i (Nat.lt_of_lt_of_le hi h.size) hne).trans (h.block i hi hne)⟩
theorem ec (w:World) (row:Option Nat):w.grownBy w.drew row:=⟨rfl,rfl,rfl,Nat.le_refl _,λ_ _ _=>rfl⟩
theorem cI (w:World) (g i:Nat) (v:Value):w.grownBy (w.setCell ⟨g,i,none⟩ v) (some g):=
 ⟨rfl,rfl,rfl,by simp,λk _ hk=>Below.heap_setCell _ _ _ _ (by simpa using hk)⟩
theorem bn (w:World) (o:Obj) (row:Option Nat):w.grownBy (w.alloc o) row:=World.grownBy_alloc w o row
theorem Ar {b:World} (h:Below a.heap.size a b):a.grownBy b none:=⟨h.os,h.tape,h.output,h.size,λk hk _=>h.block k hk⟩
theorem below_grown {b:World} (h:a.grownBy b none):Below a.heap.size a b:=⟨h.os,h.tape,h.output,h.size,λk hk=>h.block k hk (by simp)⟩
theorem di {b c:World} (h:a.grownBy b none) (k:b.grownBy c (some g)) (hg:a.heap.size<=g):a.grownBy c none:=
 ⟨k.os.trans h.os,k.tape.trans h.tape,k.output.trans h.output,Nat.le_trans h.size k.size,
  λi hi hne=>(k.block i (Nat.lt_of_lt_of_le hi h.size) (λx=>by cases x;omega)).trans (h.block i hi hne)⟩
theorem aN.grown {row:Option Nat} (h:aN w e g n c) (hg:w.grownBy w' row) (hne:some g≠row):aN w' e g n c:=
 h.of_block (hg.block g h.lt hne)
def Sl (w:World) (k:IntKind) (v:Value) (xs:List Nat):Prop:=
 ∃(p:Option Addr) (cap:Nat),v = .slice p xs.length cap∧xs.length<=cap∧cap<=9223372036854775807 ∧
  (xs = []∨∃b off,p=some ⟨b,off,none⟩∧b<w.heap.size∧∀j,j<xs.length->w.cell? ⟨b,off+j,none⟩=some (.int k (nth xs j)))
theorem Sl.grown {k:IntKind}{row:Option Nat} (h:Sl w k v xs) (hg:w.grownBy w' row) (hne:row=none∨v.ownBlock≠row):Sl w' k v xs:=by
 obtain ⟨p,cap,rfl,h1,h2,h3⟩:=h;refine ⟨p,cap,rfl,h1,h2,?_⟩;rcases h3 with h3 | ⟨b,off,rfl,h4,h5⟩
 ·exact .inl h3
 ·refine .inr ⟨b,off,rfl,Nat.lt_of_lt_of_le h4 hg.size,λj hj=>?_⟩
  rw [World.cell?_of_block (w := w) (hg.block b h4 (by rcases hne with rfl | hne; · simp
                                                       · simpa [Value.ownBlock] using hne))]
  exact h5 j hj
theorem Sl.below {k:IntKind} (h:Sl w k v xs) (hb:Below w.heap.size w w'):Sl w' k v xs:=h.grown (Ar hb) (.inl rfl)
theorem Sl.nil (w:World) (k:IntKind):Sl w k (.slice none 0 0) []:=⟨none,0,rfl,Nat.le_refl _,by omega,.inl rfl⟩
theorem Sl.zero (w:World) (k:IntKind) (p:Option Addr) (cap:Nat) (hc:cap<=9223372036854775807):Sl w k (.slice p 0 cap) []:=⟨p,cap,rfl,Nat.zero_le _,hc,.inl rfl⟩
theorem Sl.block_lt {k:IntKind}{xs:List Nat} (h:Sl w k v xs) (hne:xs ≠ []):∀b,v.ownBlock=some b->b<w.heap.size:=by
 obtain ⟨p,cap,rfl,h1,h2,h3⟩:=h;rcases h3 with h3 | ⟨b,off,rfl,h4,h5⟩
 ·exact absurd h3 hne
 ·intro b' hb;simp [Value.ownBlock] at hb;subst hb;exact h4
theorem Sl.take {k:IntKind}{p:Option Addr} (h:Sl w k (.slice p m cap) xs) (n:Nat) (hn:n<=xs.length):Sl w k (.slice p n cap) (xs.take n):=by
 obtain ⟨p',cap',e,h1,h2,h3⟩:=h;simp only [Value.slice.injEq] at e;obtain ⟨rfl,rfl,rfl⟩:=e;have hl:(xs.take n).length=n:=by rw [List.length_take,Nat.min_eq_left hn]
 refine ⟨p,cap,by rw [hl],by omega,h2,?_⟩;rcases h3 with rfl | ⟨b,off,rfl,h4,h5⟩
 ·exact .inl (by simp)
 ·exact .inr ⟨b,off,rfl,h4,λj hj=>by rw [hl] at hj;rw [fZ _ hj];exact h5 j (by omega)⟩
def Own (w:World) (e:TypeId) (k:IntKind) (B:Nat) (v:Value) (xs:List Nat):Prop:=
 (v = .slice none 0 0∧xs = []) ∨
 ∃g cap c,v = .slice (some ⟨g,0,none⟩) xs.length cap∧B<=g∧aN w e g cap c∧xs.length<=cap∧cap<=9223372036854775807∧∀j,j<xs.length->c j = .int k (nth xs j)
theorem Own.sl {k:IntKind} (h:Own w e k B v xs):Sl w k v xs:=by
 rcases h with ⟨rfl,rfl⟩ | ⟨g,cap,c,rfl,h1,h2,h3,h4,h5⟩
 ·exact Sl.nil w k
 ·exact ⟨_,cap,rfl,h3,h4,.inr ⟨g,0,rfl,h2.lt,λj hj=>by rw [Nat.zero_add,h2.cell (by omega),h5 j hj]⟩⟩
theorem Own.nil (w:World) (e:TypeId) (k:IntKind) (B:Nat):Own w e k B (.slice none 0 0) []:=.inl ⟨rfl,rfl⟩
theorem Own.mono {k:IntKind}{B':Nat} (h:Own w e k B v xs) (hB:B'<=B):Own w e k B' v xs:=by
 rcases h with h | ⟨g,cap,c,h0,h1,h2⟩
 ·exact .inl h
 ·exact .inr ⟨g,cap,c,h0,by omega,h2⟩
theorem Own.lt {k:IntKind} (h:Own w e k B v xs):∀g,v.ownBlock=some g->B<=g∧g<w.heap.size:=by
 intro g hg;rcases h with ⟨rfl,rfl⟩ | ⟨g',cap,c,rfl,h1,h2,h3⟩
 ·simp [Value.ownBlock] at hg
 ·simp [Value.ownBlock] at hg;subst hg;exact ⟨h1,h2.lt⟩
theorem Own.grown {k:IntKind}{row:Option Nat} (h:Own w e k B v xs) (hg:w.grownBy w' row) (hne:row=none∨v.ownBlock≠row):Own w' e k B v xs:=by
 rcases h with h | ⟨g,cap,c,rfl,h1,h2,h3⟩
 ·exact .inl h
 ·refine .inr ⟨g,cap,c,rfl,h1,h2.grown hg ?_,h3⟩;rcases hne with rfl | hne
  ·simp
  ·simpa [Value.ownBlock] using hne
theorem Own.below {k:IntKind} (h:Own w e k B v xs) (hb:Below w.heap.size w w'):Own w' e k B v xs:=h.grown (Ar hb) (.inl rfl)
theorem Own.take {k:IntKind}{p:Option Addr} (h:Own w e k B (.slice p m cap) xs) (n:Nat) (hn:n<=xs.length):Own w e k B (.slice p n cap) (xs.take n):=by
 have hl:(xs.take n).length=n:=by rw [List.length_take,Nat.min_eq_left hn]
 rcases h with ⟨e,rfl⟩ | ⟨g,cap',c,e,h1,h2,h3,h4,h5⟩
 ·simp only [Value.slice.injEq] at e;obtain ⟨rfl,rfl,rfl⟩:=e;obtain rfl:n=0:=(by simpa using hn);exact .inl ⟨rfl,rfl⟩
 ·simp only [Value.slice.injEq] at e;obtain ⟨rfl,rfl,rfl⟩:=e;refine .inr ⟨g,cap,c,by rw [hl],h1,h2,by omega,h4,λj hj=>?_⟩;rw [hl] at hj;rw [fZ _ hj];exact h5 j (by omega)
def vals (k:IntKind) (xs:List Nat):List Value:=xs.map λ(x:Nat)=>Value.int k (x:Int)
theorem og (k:IntKind) (xs:List Nat):(vals k xs).length=xs.length:=by simp [vals]
theorem pS (k:IntKind) (xs:List Nat) (h:j<xs.length):(vals k xs)[j]?=some (.int k (nth xs j)):=by simp [vals,Mg xs h]
theorem As (k:IntKind) (xs ys:List Nat):vals k (xs ++ ys)=vals k xs ++ vals k ys:=by simp [vals]
theorem vz (k:IntKind) (xs:List Nat):∀v ∈ vals k xs,v.oneCell'=true:=by intro v hv;obtain ⟨x,_,rfl⟩:=List.mem_map.1 hv;rfl
theorem Own.row {k:IntKind} (h:Own w e k B v xs):w.ownsRow B e 1 v xs.length (vals k xs):=by
 refine ⟨by rw [og];omega,?_⟩;rcases h with ⟨rfl,rfl⟩ | ⟨g,cap,c,rfl,h1,⟨cur,h2,h2s,h2c⟩,h3,h4,h5⟩
 ·exact .inl ⟨rfl,rfl⟩
 ·refine .inr ⟨g,cap,cur,rfl,h1,h2,h3,h4,by omega,?_⟩;apply List.ext_getElem?;intro j;by_cases hj:j<xs.length
  ·rw [List.getElem?_take,if_pos (by omega),pS k xs hj,<- h5 j hj,Array.getElem?_toList,h2c j (by omega)]
  ·rw [List.getElem?_eq_none (by rw [List.length_take];omega),List.getElem?_eq_none (by rw [og];omega)]
theorem Own.Au {k:IntKind} (h:w.ownsRow B e 1 v n (vals k xs)):Own w e k B v xs:=by
 obtain ⟨h0,h⟩:=h;rw [og,Nat.mul_one] at h0;subst h0;rcases h with ⟨rfl,h⟩ | ⟨g,cap,cur,rfl,h1,h2,h3,h4,h5,h6⟩
 ·exact .inl ⟨rfl,List.eq_nil_of_length_eq_zero h⟩
 ·refine .inr ⟨g,cap,λj=>(cur[j]?).getD undef,rfl,h1,⟨cur,h2,by omega,λj hj=>?_⟩,h3,h4,λj hj=>?_⟩
  ·show cur[j]?=some ((cur[j]?).getD undef);rw [Array.getElem?_eq_getElem (by omega)];rfl
  ·have hv:=pS k xs hj;rw [<- h6,List.getElem?_take,if_pos (by omega),Array.getElem?_toList] at hv;show (cur[j]?).getD undef=_;rw [hv];rfl
def lay (c:Nat->Value) (off n:Nat) (k:IntKind) (xs:List Nat):Nat->Value:=λj=>if off<=j∧j<off+n then .int k (nth xs (j-off)) else c j
theorem jc (c:Nat->Value) (k:IntKind) (xs:List Nat) (h:j<n:=by omega):lay c off n k xs (off+j) = .int k (nth xs j):=by unfold lay;rw [if_pos (by omega),Nat.add_sub_cancel_left]
theorem jB (c:Nat->Value) (k:IntKind) (xs:List Nat) (h:j<n):lay c 0 n k xs j = .int k (nth xs j):=by
 have:=jc c (off:=0) k xs (h:=h)
 rwa [Nat.zero_add] at this
theorem eG (c:Nat->Value) (k:IntKind) (xs:List Nat) (h:j<off∨off+n<=j:=by omega):lay c off n k xs j=c j:=by unfold lay;rw [if_neg (by omega)]
section
variable {P:Program}{ops:Array Oper}{rest:List Oper}{o:Oper}{a:Act}{Q:Exit->Act->World->Prop}
theorem jd (hg:o.guard=none) (l c:Operand) (t:TypeId) (hop:o.op=Op.makeSlice t l c) (e:TypeId) (i:TypeInfo) (z:Value)
  (h1:P.underlying t=some (.slice e)) (h2:P.info? e=some i) (h3:i.zero=some z) (h4:i.size=1) (hz:z.cells = #[z])
  (kl kc:IntKind) (L C:Int) (n m:Nat) (hl:a.eval l = .int kl L) (hc:a.eval c = .int kc C) (hnm:n<=m)
  (hK:∀w',aN w' e w.heap.size m (λ_=>z)->w.grownBy w' none->w'.heap.size=w.heap.size+1->wpList P ops Q rest (a.put o.dst (.slice (some ⟨w.heap.size,0,none⟩) n m)) w') (h5:i.bytes<=8:=by omega) (hL:L=(n:Int):=by omega) (hC:C=(m:Int):=by omega) (hm:m<=17592186044416:=by omega) :
  wpList P ops Q (o :: rest) a w:=by
 refine wpList_plain hg λK hK'=>?_;subst hL;subst hC;have hbytes:(i.bytes:Int)*(m:Int)<=281474976710656:=by
  have h:i.bytes*m<=8*m:=Nat.mul_le_mul_right m h5;have h':((i.bytes*m:Nat):Int)<=281474976710656:=by omega
  rwa [Int.natCast_mul] at h'
 have hr:=run_make (P:=P) w t e i z h1 h2 h3 kl kc n m (by omega) (by omega) hbytes (by omega);simp only [Int.toNat_natCast,h4,Nat.mul_one] at hr;unfold Oper.wp;simp [execOp,hop,hl,hc,hr,Result.andThen];refine hK' _ _ (hK _ ?_ (bn _ _ _) (by simp));have hrow:=aN.made w (madeCells z.cells m) e (λ_=>z) (λj hj=>by
  rw [size_madeCells] at hj;simp [madeCells,hz,hj,Nat.mod_one])
 rwa [size_madeCells] at hrow
theorem Mh (hgd:o.guard=none) (d s:Operand) (dT sT:TypeId) (ho:o.op = .call { callee:=.builtin .copy,args:=#[d,s],argTypes:=#[dT,sT] })
  (e:TypeId) (hu:P.underlying dT=some (.slice e)) (hsz:(P.info? e).map (·.size)=some 1) (k:IntKind)
  (sp:Option Addr) (g off N n dLen dCap sLen sCap:Nat) (c:Nat->Value) (xs:List Nat) (hd:a.eval d = .slice (some ⟨g,off,none⟩) dLen dCap) (hs:a.eval s = .slice sp sLen sCap)
  (hsl:Sl w k (.slice sp sLen sCap) xs) (hrow:aN w e g N c) (hn:n=Nat.min sLen dLen)
  (hK:∀w',aN w' e g N (lay c off n k xs)->w.grownBy w' (some g)->w'.heap.size=w.heap.size->wpList P ops Q rest (a.put o.dst (goInt n)) w') (hfit:off+n<=N:=by omega) :
  wpList P ops Q (o :: rest) a w:=by
 obtain ⟨p',cap',e',h1,h2,h3⟩:=hsl;simp only [Value.slice.injEq] at e';obtain ⟨rfl,rfl,rfl⟩:=e';by_cases h0:n=0
 ·subst h0;refine wpList_copy_nothing hgd d s dT sT ho e hu hsz _ _ _ _ _ _ hd hs hn.symm ?_;refine hK w (hrow.congr λj hj=>?_) (bH _ _) rfl;rw [eG _ _ _]
 ·have hmin:n<=xs.length:=by rw [hn];exact Nat.min_le_left _ _
  have aiu:n<=dLen:=by rw [hn];exact Nat.min_le_right _ _
  rcases h3 with rfl | ⟨b,ic,rfl,h4,h5⟩
  ·simp at hmin;exact absurd hmin h0
  obtain ⟨cur,r1,r2,r3⟩:=hrow;have hlen:(vals k (xs.take n)).length=n:=by rw [og,List.length_take,Nat.min_eq_left hmin]
  refine wpList_copy_own hgd d s dT sT ho e hu hsz g off dLen dCap ⟨b,ic,none⟩ xs.length sCap hd hs cur e r1 (vals k (xs.take n)) (by rw [hlen,hn]) ?_ (by rw [hlen];omega) (vz _ _) ?_
  ·intro j v hj;have hjl:j<n:=by
    have:=(List.getElem?_eq_some_iff.1 hj).1;omega
   rw [pS k _ (by rw [List.length_take,Nat.min_eq_left hmin];exact hjl)] at hj;rw [Addr.add_lit,h5 j (by omega),<- hj,fZ _ hjl]
  ·rw [hlen];refine hK _ ?_ ⟨rfl,rfl,rfl,by simp [World.setRow],λi _ hi=>setRow_other w g i _ (λx=>hi (by rw [x]))⟩ (by simp [World.setRow]);refine ⟨_,setRow_heap w g cur _ e _ r1,?_,?_⟩
   ·simp [hlen];omega
   ·intro j hj;have r:=r3 j hj;simp only [List.getElem?_toArray,List.getElem?_append,List.length_take,Array.length_toList];unfold lay;by_cases c1:j<off
    ·rw [if_pos (by omega),if_neg (by omega),List.getElem?_take,if_pos c1,Array.getElem?_toList,r]
    ·rw [if_neg (by omega)];have ho:min off cur.size=off:=by omega
     rw [ho,hlen];by_cases c2:j<off+n
     ·rw [if_pos (by omega),if_pos (by omega),pS k _ (by rw [List.length_take,Nat.min_eq_left hmin];omega),fZ _ (by omega)]
     ·rw [if_neg (by omega),if_neg (by omega),List.getElem?_drop,Array.getElem?_toList,<- r];congr 1;omega
end
theorem jC (c:Nat->Value) (off:Nat) (k:IntKind) (xs:List Nat):lay c off 0 k xs=c:=by funext j;exact eG _ _ _
theorem Av (c:Nat->Value) (off n:Nat) (k:IntKind) (xs:List Nat) (hv:v = .int k (nth xs n)):upd (lay c off n k xs) (off+n) v=lay c off (n+1) k xs:=by
 funext j;subst hv;by_cases h:j=off+n
 ·subst h;rw [kj,jc _ _ _]
 ·rw [upd_ne _ _ h];by_cases h2:off<=j∧j<off+n
  ·obtain ⟨i,rfl⟩:∃i,j=off+i:=⟨j-off,by omega⟩;rw [jc _ _ _,jc _ _ _]
  ·rw [eG _ _ _,eG _ _ _]
theorem iG (c:Nat->Value) (n:Nat) (k:IntKind) (xs:List Nat) (hv:v = .int k (nth xs n)):upd (lay c 0 n k xs) n v=lay c 0 (n+1) k xs:=by
 have:=Av c 0 n k xs hv
 rwa [Nat.zero_add] at this
theorem int_eq {k:IntKind}{a b:Int} (h:a=b):Value.int k a=Value.int k b:=by rw [h]
section
variable {P:Program}{ops:Array Oper}{rest:List Oper}{o:Oper}{a:Act}{Q:Exit->Act->World->Prop}
theorem jD (hgd:o.guard=none) (s x:Operand) (t:TypeId) (ho:o.op = .call { callee:=.builtin .append,args:=#[s,x],argTypes:=#[t,t] })
  (e:TypeId) (i:TypeInfo) (z:Value) (k:IntKind) (ht:P.underlying t=some (.slice e)) (hi:P.info? e=some i) (hz:i.zero=some z) (hsize:i.size=1) (hzs:z.cells.size=1)
  (B:Nat) (v:Value) (xs:List Nat) (y:Nat) (hs:a.eval s=v) (hown:Own w e k B v xs) (q:Nat) (hx:a.eval x = .slice (some ⟨q,0,none⟩) 1 1) (hq:w.cell? ⟨q,0,none⟩=some (.int k (y:Int)))
  (hlen:xs.length<17592186044416) (hB:B<=w.heap.size)
  (hK:∀v' w',Own w' e k B v' (xs ++ [y])->w.grownBy w' v.ownBlock->wpList P ops Q rest (a.put o.dst v') w') (hby:i.bytes<=8:=by omega):wpList P ops Q (o :: rest) a w:=by
 refine wpList_append_own w hgd s x t ho B e i z 1 i.bytes ht hi hz hsize rfl hzs (by omega) v xs.length (vals k xs) hs hown.row ⟨q,0,none⟩ 1 1 (vals k [y]) hx rfl ?_ (vz _ _) (by simp only [maxLen];omega) ?_ hB ?_
 ·intro j u hj;have hj0:j=0:=by
   have:=(List.getElem?_eq_some_iff.1 hj).1;simp [vals] at this;exact this
  subst hj0;simp [vals] at hj;rw [Addr.add_lit,<- hj];exact hq
 ·have h:(xs.length+1)*i.bytes<=(xs.length+1)*8:=Nat.mul_le_mul_left _ hby;omega
 ·intro v' w' h1 h2 _;refine hK v' w' ?_ h2;rw [<- As] at h1;exact Own.Au h1
end
def Aw (w:World) (v:Value) (n:Nat) (vs:Nat->Value):Prop:=
 ∃(p:Option Addr) (cap:Nat),v = .slice p n cap∧n<=cap∧cap<=9223372036854775807 ∧
  (n=0∨∃b off,p=some ⟨b,off,none⟩∧b<w.heap.size∧∀j,j<n->w.cell? ⟨b,off+j,none⟩=some (vs j))
theorem gT {k:IntKind}{a b:Int} (h:a=b):Ending.returned (.int k a) = .returned (.int k b):=by rw [h]
set_option maxHeartbeats 4000000 in
set_option maxRecDepth 100000 in
theorem AA (x:Int) (w:World) (h0:0<=x) (h1:x<=4294967295) :
  Calls prog 174 #[.int .u32 x] w λe w'=>e = .returned (.int .i64 (Lib.bitLen x.toNat))∧w=w':=by
 have R:∀(i:Int) (w:World),0<=i->i<=255->(Instr.index 9 (.string Lib.len8tab) (.int .u8 i)).run prog w = .ok (.int .u8 (Lib.len8 i)) w:=λi w a b=>Lib.run_index_len8tab w 9 .u8 i underlying9 a (by omega);by_cases c1:65536<=x
 ·by_cases c2:256<=x / 65536
  ·have r:=λw=>R (x / 65536 / 256) w (by omega) (by omega);have B:=hid (Lib.bitLen_shift24 x.toNat (by omega) (by omega));have E:=hid (show (x / 65536 / 256).toNat=x.toNat / 16777216 by omega);have L:=hid (Lib.bitLen_le8' (x / 65536 / 256) (by omega) (by omega));have K:=hid (Lib.len8_of (x / 65536 / 256) (by omega) (by omega));clear R;have a1:0<=Lib.len8 (x / 65536 / 256):=by rw [K.out];omega
   have a2:Lib.len8 (x / 65536 / 256)<=8:=by rw [K.out];have:=L.out;omega
   go_enter func174,ntmps174
   go_wp2
   go_ret
   refine ⟨gT ?_,rfl⟩;rw [B.out,<- E.out,K.out];omega
  ·have r:=λw=>R (x / 65536) w (by omega) (by omega);have B:=hid (Lib.bitLen_shift16 x.toNat (by omega) (by omega));have E:=hid (show (x / 65536).toNat=x.toNat / 65536 by omega);have L:=hid (Lib.bitLen_le8' (x / 65536) (by omega) (by omega));have K:=hid (Lib.len8_of (x / 65536) (by omega) (by omega));clear R;have a1:0<=Lib.len8 (x / 65536):=by rw [K.out];omega
   have a2:Lib.len8 (x / 65536)<=8:=by rw [K.out];have:=L.out;omega
   go_enter func174,ntmps174
   go_wp2
   go_ret
   refine ⟨gT ?_,rfl⟩;rw [B.out,<- E.out,K.out];omega
 ·by_cases c2:256<=x
  ·have r:=λw=>R (x / 256) w (by omega) (by omega);have B:=hid (Lib.bitLen_shift8 x.toNat (by omega) (by omega));have E:=hid (show (x / 256).toNat=x.toNat / 256 by omega);have L:=hid (Lib.bitLen_le8' (x / 256) (by omega) (by omega));have K:=hid (Lib.len8_of (x / 256) (by omega) (by omega));clear R;have a1:0<=Lib.len8 (x / 256):=by rw [K.out];omega
   have a2:Lib.len8 (x / 256)<=8:=by rw [K.out];have:=L.out;omega
   go_enter func174,ntmps174
   go_wp2
   go_ret
   refine ⟨gT ?_,rfl⟩;rw [B.out,<- E.out,K.out];omega
  ·have r:=λw=>R x w (by omega) (by omega);have L:=hid (Lib.bitLen_le8' x (by omega) (by omega));have K:=hid (Lib.len8_of x (by omega) (by omega));clear R;have a1:0<=Lib.len8 x:=by rw [K.out];omega
   have a2:Lib.len8 x<=8:=by rw [K.out];have:=L.out;omega
   go_enter func174,ntmps174
   go_wp2
   go_ret
   refine ⟨gT ?_,rfl⟩;rw [K.out]
theorem AB (f:Nat):∀x,x<2 ^ f->x<2 ^ Lib.bitLenAux f x∧(0<x->2 ^ (Lib.bitLenAux f x-1)<=x∧0<Lib.bitLenAux f x):=by
 induction f with
 | zero=>
  intro x h;obtain rfl:x=0:=(by simpa using h);simp [Lib.bitLenAux]
 | succ f ih=>
  intro x h;by_cases h0:x=0
  ·subst h0;simp [Lib.bitLenAux]
  ·obtain ⟨h1,h2⟩:=ih (x / 2) (by rw [Nat.pow_succ] at h;omega);have e:Lib.bitLenAux (f+1) x=1+Lib.bitLenAux f (x / 2):=by simp [Lib.bitLenAux,h0]
   rw [e];have p:(2:Nat) ^ (1+Lib.bitLenAux f (x / 2))=2*2 ^ Lib.bitLenAux f (x / 2):=by rw [Nat.pow_add]
   refine ⟨by rw [p];omega,λ_=>⟨?_,by omega⟩⟩;rw [Nat.add_sub_cancel_left];by_cases h3:x / 2=0
   ·rw [h3];have:Lib.bitLenAux f 0=0:=by cases f <;> simp [Lib.bitLenAux]
    rw [this];omega
   ·obtain ⟨h4,h5⟩:=h2 (by omega);obtain ⟨m,hm⟩:∃m,Lib.bitLenAux f (x / 2)=m+1:=⟨Lib.bitLenAux f (x / 2)-1,by omega⟩;rw [hm] at h4 ⊢;rw [Nat.add_sub_cancel] at h4;rw [Nat.pow_succ];omega
theorem AC (x:Nat) (h:x<18446744073709551616:=by omega):x<2 ^ Lib.bitLen x:=(AB 64 x h).1
theorem AD (x:Nat) (h0:0<x) (h:x<18446744073709551616:=by omega):2 ^ (Lib.bitLen x-1)<=x∧0<Lib.bitLen x:=(AB 64 x h).2 h0
theorem AE (x:Int) (w:World) (h0:0<=x:=by omega) (h1:x<=4294967295:=by omega) :
  Calls prog 170 #[.int .u32 x] w λe w'=>e = .returned (.int .i64 (32-(Lib.bitLen x.toNat:Int)))∧w=w':=by
 have hb:=Lib.bitLen_le x.toNat 32 (by omega) (by omega);go_enter func170,ntmps170
 go_wp2_with fail
 refine (AA x _ h0 h1).mono ?_;rintro e w' ⟨rfl,rfl⟩;generalize hl:Lib.bitLen x.toNat=l at *
 have HL:=hid hl;clear hl;go_wp2_with fail
 go_ret
 exact ⟨gT (by rw [HL.out]),rfl⟩
theorem Mi (n y:Nat) (h:n / y<4294967296):(n:Int) / (y:Int) % 4294967296=((n / y:Nat):Int):=by
 rw [<- Int.natCast_ediv];generalize n / y=q at *
 omega
theorem Mj (n y:Nat) (h:n % y<4294967296):(n:Int) % (y:Int) % 4294967296=((n % y:Nat):Int):=by
 rw [<- Int.natCast_emod];generalize n % y=q at *
 omega
theorem rZ (hi lo:Nat) (h1:hi<4294967296) (h2:lo<4294967296):bits .or .u64 ((hi:Int)*4294967296) (lo:Int)=(hi:Int)*4294967296+lo:=by
 have e:((hi:Int)*4294967296)=((hi*4294967296:Nat):Int):=by omega
 rw [e,u64_or_nat _ _ (by omega) (by omega),nat_join 32 _ _ (by omega) (by omega)];omega
set_option maxHeartbeats 400000 in
theorem Mk (hi lo y:Nat) (w:World) (h1:hi<y) (h2:lo<4294967296) (h3:y<4294967296) :
  Calls prog 179 #[.int .u32 hi,.int .u32 lo,.int .u32 y] w λe w'=>e = .returned (.tuple #[.int .u32 (((hi*4294967296+lo) / y:Nat):Int),.int .u32 (((hi*4294967296+lo) % y:Nat):Int)])∧∃n,w'=w.drewN n:=by
 have b1:(((y:Nat):Int) != 0)=true:=by rw [bne_iff_ne];omega
 have b2:decide (((y:Nat):Int)<=((hi:Nat):Int))=false:=by simp;omega
 have b3:decide (y<=hi)=false:=by simp;omega
 have so:=rZ hi lo (by omega) h2;go_enter func179,ntmps179
 go_wp2_with fail
 have y0:0<y:=by omega
 have hq:(hi*4294967296+lo) / y<4294967296:=by rw [Nat.div_lt_iff_lt_mul (by omega)];omega
 have hr:(hi*4294967296+lo) % y<y:=Nat.mod_lt _ y0;go_quiet (fail)
 go_wp2
 go_ret2
 have f1:((hi:Int)*4294967296+lo) / (y:Int) % 4294967296=(((hi*4294967296+lo) / y:Nat):Int):=by rw [show ((hi:Int)*4294967296+lo)=((hi*4294967296+lo:Nat):Int) by omega];exact Mi _ _ hq
 have f2:((hi:Int)*4294967296+lo) % (y:Int) % 4294967296=(((hi*4294967296+lo) % y:Nat):Int):=by rw [show ((hi:Int)*4294967296+lo)=((hi*4294967296+lo:Nat):Int) by omega];exact Mj _ _ (Nat.lt_trans hr h3)
 exact ⟨by rw [<- f1,<- f2];rfl,_,rfl⟩
section
variable {P:Program}
theorem vC (t ty e:TypeId) (i:TypeInfo) (ht:P.underlying t=some (.slice e)) (hi:P.info? e=some i) (base p:Option Addr) (n cap c:Nat) (h:n<=cap) :
  (Builtin.append_ #[t,t] ty #[.slice base n cap,.slice p 0 c]).run P w = .ok (.slice base n cap) w:=by
 cases base <;> cases p <;> simp [Builtin.append_,run_underlying ht,sizeOf,typeInfo,hi,Builtin.lenOf,h,Builtin.firstCells,loadCells,loadCellsFrom,storeCells]
variable {ops:Array Oper}{rest:List Oper}{o:Oper}{a:Act}{Q:Exit->Act->World->Prop}
theorem Ml (hgd:o.guard=none) (s x:Operand) (t:TypeId) (ho:o.op = .call { callee:=.builtin .append,args:=#[s,x],argTypes:=#[t,t] })
  (e:TypeId) (i:TypeInfo) (z:Value) (k:IntKind) (ht:P.underlying t=some (.slice e)) (hi:P.info? e=some i) (hz:i.zero=some z) (hsize:i.size=1) (hzs:z.cells.size=1)
  (B:Nat) (v:Value) (xs:List Nat) (hs:a.eval s=v) (hown:Own w e k B v xs) (p:Option Addr) (n c:Nat) (ys:List Nat) (hx:a.eval x = .slice p n c) (hsl:Sl w k (.slice p n c) ys)
  (hlen:xs.length+ys.length<=17592186044415)
  (hK:∀v' w',Own w' e k B v' (xs ++ ys)->w.grownBy w' v.ownBlock->wpList P ops Q rest (a.put o.dst v') w') (hby:i.bytes<=8:=by omega) (hB:B<=w.heap.size:=by simp):wpList P ops Q (o :: rest) a w:=by
 obtain ⟨p',c',e',h1,h2,h3⟩:=hsl;simp only [Value.slice.injEq] at e';obtain ⟨rfl,rfl,rfl⟩:=e';rcases h3 with rfl | ⟨b,off,rfl,h4,h5⟩
 ·refine wpList_plain hgd λK hK'=>?_;obtain ⟨base,m,cap,rfl,hm⟩:∃base m cap,v = .slice base m cap∧m<=cap:=by
   rcases hown with ⟨rfl,rfl⟩ | ⟨g,cap,c,rfl,_,_,hle,_⟩
   ·exact ⟨_,_,_,rfl,Nat.le_refl _⟩
   ·exact ⟨_,_,_,rfl,hle⟩
  have hr:=vC (P:=P) (w:=w) t o.type e i ht hi base p m cap c hm;unfold Oper.wp;simp [execOp,ho,resolve,invoke,builtin,hs,hx,hr,Result.andThen];exact hK' _ _ (hK _ w (by simpa using hown) (bH _ _))
 ·refine wpList_append_own w hgd s x t ho B e i z 1 i.bytes ht hi hz hsize rfl hzs (by omega) v xs.length (vals k xs) hs hown.row ⟨b,off,none⟩ ys.length c (vals k ys) hx (by rw [og];omega) ?_ (vz _ _) (by simp only [maxLen];omega) ?_ hB ?_
  ·intro j u hj;have hjl:j<ys.length:=by
    have:=(List.getElem?_eq_some_iff.1 hj).1
    rwa [og] at this
   rw [pS k ys hjl] at hj;rw [Addr.add_lit,<- hj];exact h5 j hjl
  ·have h:(xs.length+ys.length)*i.bytes<=(xs.length+ys.length)*8:=Nat.mul_le_mul_left _ hby;omega
  ·intro v' w' g1 g2 _;refine hK v' w' ?_ g2;rw [<- As] at g1;exact Own.Au g1
end
end Go.Proofs.YtlmanbjkkjfjgaaGreat
