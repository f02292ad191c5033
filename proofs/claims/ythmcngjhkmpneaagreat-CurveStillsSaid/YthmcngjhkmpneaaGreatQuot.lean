/- Plain facts on numbers as rows of digits to a base, the lowest first: no program is spoken of here. Rational numbers as a numerator over a denominator; a denominator of 0 counts as 1. -/
import GoSem.Claim
namespace Go.Proofs.YthmcngjhkmpneaaGreat
def nth (xs:List Nat) (j:Nat):Nat:=xs.getD j 0
theorem jp (xs:List Nat){j:Nat} (h:j<xs.length):xs[j]=nth xs j:=by simp [nth,h]
theorem zX (xs:List Nat){j:Nat} (h:j<xs.length):xs[j]?=some (nth xs j):=by simp [nth,h]
theorem cP (xs:List Nat){j:Nat} (h:xs.length<=j):nth xs j=0:=by simp [nth,h]
theorem HW (xs:List Nat){j:Nat} (h:j<xs.length):nth xs j ∈ xs:=by rw [<- jp xs h];exact List.getElem_mem h
theorem kX (xs ys:List Nat){j:Nat} (h:j<xs.length):nth (xs ++ ys) j=nth xs j:=by simp [nth,List.getElem?_append,h]
theorem gL (xs ys:List Nat){j:Nat} (h:xs.length<=j):nth (xs ++ ys) j=nth ys (j-xs.length):=by
 simp [nth,List.getElem?_append_right h]
theorem GG (xs:List Nat) (y:Nat):nth (xs ++ [y]) xs.length=y:=by simp [nth]
theorem dM (xs:List Nat){k j:Nat} (h:j<k):nth (xs.take k) j=nth xs j:=by simp [nth,h]
theorem fJ (xs:List Nat) (k j:Nat):nth (xs.drop k) j=nth xs (k+j):=by simp [nth,List.getElem?_drop]
theorem m6 (xs:List Nat){k:Nat} (h:k<xs.length):xs.take (k+1)=xs.take k ++ [nth xs k]:=by
 rw [List.take_add_one,List.getElem?_eq_getElem h,jp xs h];rfl
theorem kN (xs:List Nat){k:Nat} (h:k<xs.length):xs.drop k=nth xs k :: xs.drop (k+1):=by
 rw [List.drop_eq_getElem_cons h,jp xs h]
theorem qu {xs ys:List Nat} (hl:xs.length=ys.length) (h:∀j,j<xs.length->nth xs j=nth ys j):xs=ys:=by
 apply List.ext_getElem hl
 intro j h1 h2
 rw [jp xs h1,jp ys h2,h j h1]
def All (b:Nat) (xs:List Nat):Prop:=∀x,x ∈ xs->x<b
theorem All.nth {b:Nat}{xs:List Nat} (h:All b xs){j:Nat} (hj:j<xs.length):nth xs j<b:=h _ (HW xs hj)
theorem All.of {b:Nat}{xs:List Nat} (h:∀j,j<xs.length->Go.Proofs.YthmcngjhkmpneaaGreat.nth xs j<b):All b xs:=by
 intro x hx
 obtain ⟨j,hj,rfl⟩:=List.getElem_of_mem hx
 rw [jp xs hj];exact h j hj
theorem All.nil (b:Nat):All b []:=fun _ h=>by cases h
theorem All.cons {b x:Nat}{xs:List Nat} (hx:x<b) (h:All b xs):All b (x :: xs):=by
 intro y hy
 rcases List.mem_cons.1 hy with rfl | hy
 ·exact hx
 ·exact h y hy
theorem All.head {b x:Nat}{xs:List Nat} (h:All b (x :: xs)):x<b:=h x (by simp)
theorem All.tail {b x:Nat}{xs:List Nat} (h:All b (x :: xs)):All b xs:=fun y hy=>h y (by simp [hy])
theorem All.app {b:Nat}{xs ys:List Nat} (h:All b xs) (k:All b ys):All b (xs ++ ys):=by
 intro y hy
 rcases List.mem_append.1 hy with hy | hy
 ·exact h y hy
 ·exact k y hy
theorem All.take {b:Nat}{xs:List Nat} (h:All b xs) (k:Nat):All b (xs.take k):=fun y hy=>h y (List.mem_of_mem_take hy)
theorem All.drop {b:Nat}{xs:List Nat} (h:All b xs) (k:Nat):All b (xs.drop k):=fun y hy=>h y (List.mem_of_mem_drop hy)
theorem All.mono {b c:Nat}{xs:List Nat} (h:All b xs) (hc:b<=c):All c xs:=fun y hy=>Nat.lt_of_lt_of_le (h y hy) hc
theorem All.iy {b x:Nat} (h:x<b) (n:Nat):All b (List.replicate n x):=fun y hy=>by rw [(List.mem_replicate.1 hy).2];exact h
def val (b:Nat):List Nat->Nat
 | []=>0
 | x :: xs=>x+b*val b xs
theorem jq (b:Nat) (xs ys:List Nat):val b (xs ++ ys)=val b xs+b ^ xs.length*val b ys:=by
 induction xs with
 | nil=>simp [val]
 | cons x xs ih=>simp only [List.cons_append,val,ih,List.length_cons,Nat.pow_succ,Nat.mul_add];rw [Nat.mul_comm (b ^ xs.length) b,Nat.mul_assoc];omega
theorem tF (b:Nat) (xs:List Nat) (y:Nat):val b (xs ++ [y])=val b xs+b ^ xs.length*y:=by rw [jq];simp [val]
theorem fL (b:Nat) (xs:List Nat){k:Nat} (h:k<xs.length):val b (xs.take (k+1))=val b (xs.take k)+b ^ k*nth xs k:=by
 rw [m6 xs h,tF,List.length_take,Nat.min_eq_left (by omega)]
theorem o7 (b:Nat) (xs:List Nat){k:Nat} (h:k<=xs.length):val b xs=val b (xs.take k)+b ^ k*val b (xs.drop k):=by
 have e:=jq b (xs.take k) (xs.drop k)
 rw [List.take_append_drop,List.length_take,Nat.min_eq_left h] at e
 exact e
theorem dw (b:Nat) (xs:List Nat){k:Nat} (h:k<xs.length):val b (xs.drop k)=nth xs k+b*val b (xs.drop (k+1)):=by
 rw [kN xs h];rfl
theorem gI (b n:Nat):val b (List.replicate n 0)=0:=by
 induction n with
 | zero=>rfl
 | succ n ih=>simp [List.replicate_succ,val,ih]
theorem cX {b:Nat}{xs:List Nat} (h:All b xs):val b xs<b ^ xs.length:=by
 induction xs with
 | nil=>simp [val]
 | cons x xs ih=>
  have h1:=h.head
  have h2:=ih h.tail
  simp only [val,List.length_cons,Nat.pow_succ]
  have h3:b*(val b xs+1)<=b*b ^ xs.length:=Nat.mul_le_mul_left b h2
  rw [Nat.mul_comm (b ^ xs.length) b]
  rw [Nat.mul_add] at h3
  omega
def eR (b:Nat):Nat->Nat->List Nat
 | 0,_=>[]
 | f+1,n=>if n=0 then [] else n % b :: eR b f (n / b)
def af (b n:Nat):List Nat:=eR b n n
theorem H1 {b:Nat} (hb:2<=b):∀f g n:Nat,n<=f->n<=g->eR b f n=eR b g n:=by
 intro f
 induction f with
 | zero=>
  intro g n h1 h2
  obtain rfl:n=0:=by omega
  cases g <;> simp [eR]
 | succ f ih=>
  intro g n h1 h2
  by_cases h0:n=0
  ·subst h0
   cases g <;> simp [eR]
  ·cases g with
   | zero=>omega
   | succ g=>
    have hd:n / b<n:=Nat.div_lt_self (by omega) (by omega)
    simp only [eR,if_neg h0]
    rw [ih g (n / b) (by omega) (by omega)]
theorem fK (b:Nat):af b 0 = []:=rfl
theorem fm {b n:Nat} (hb:2<=b) (h:0<n):af b n=n % b :: af b (n / b):=by
 cases n with
 | zero=>omega
 | succ n=>
  have hd:(n+1) / b<n+1:=Nat.div_lt_self (by omega) (by omega)
  simp only [af,eR,if_neg (Nat.succ_ne_zero n)]
  rw [H1 hb n ((n+1) / b) ((n+1) / b) (by omega) (by omega)]
theorem qG {b:Nat} (hb:2<=b){P:Nat->Prop} (h0:P 0) (h:∀n,0<n->P (n / b)->P n):∀n,P n:=by
 have aux:∀m n,n<=m->P n:=by
  intro m
  induction m with
  | zero=>intro n hn;obtain rfl:n=0:=(by omega);exact h0
  | succ m ih=>
   intro n hn
   by_cases hz:n=0
   ·subst hz;exact h0
   ·have hd:n / b<n:=Nat.div_lt_self (by omega) (by omega)
    exact h n (by omega) (ih _ (by omega))
 exact fun n=>aux n n (Nat.le_refl n)
theorem bI {b:Nat} (hb:2<=b):∀n,val b (af b n)=n:=by
 refine qG hb rfl ?_
 intro n hn ih
 rw [fm hb hn,val,ih]
 exact Nat.mod_add_div n b
theorem cY {b:Nat} (hb:2<=b):∀n,All b (af b n):=by
 refine qG hb (All.nil b) ?_
 intro n hn ih
 rw [fm hb hn]
 exact All.cons (Nat.mod_lt _ (by omega)) ih
def fk (xs:List Nat):Prop:=xs = []∨nth xs (xs.length-1)≠0
theorem fk.tail {x:Nat}{xs:List Nat} (h:fk (x :: xs)):fk xs:=by
 cases xs with
 | nil=>exact .inl rfl
 | cons y ys=>
  refine .inr ?_
  rcases h with h | h
  ·cases h
  ·simpa [nth] using h
theorem wG {b:Nat} (hb:0<b){xs:List Nat} (h:fk xs) (hne:xs ≠ []):0<val b xs:=by
 induction xs with
 | nil=>exact absurd rfl hne
 | cons x xs ih=>
  cases xs with
  | nil=>
   rcases h with h | h
   ·cases h
   ·simp [nth] at h;simp [val];omega
  | cons y ys=>
   have h1:=ih h.tail (by simp)
   simp only [val] at h1 ⊢
   have h2:0<b*(y+b*val b ys):=Nat.mul_pos hb h1
   omega
theorem mJ {b:Nat} (hb:2<=b):∀n,fk (af b n):=by
 refine qG hb (.inl rfl) ?_
 intro n hn ih
 rw [fm hb hn]
 refine .inr ?_
 by_cases hq:n / b=0
 ·rw [hq,fK]
  have:n % b=n:=Nat.mod_eq_of_lt (by
   rcases Nat.lt_or_ge n b with h | h
   ·exact h
   ·have:=Nat.div_pos h (by omega:0<b);omega)
  simp [nth,this];omega
 ·rw [fm hb (Nat.pos_of_ne_zero hq)] at ih ⊢
  rcases ih with h | h
  ·cases h
  ·simpa [nth] using h
theorem qh {b:Nat} (hb:2<=b){xs:List Nat} (ha:All b xs) (ht:fk xs):af b (val b xs)=xs:=by
 induction xs with
 | nil=>rfl
 | cons x xs ih=>
  have hp:=wG (b:=b) (by omega) ht (by simp)
  rw [fm hb hp]
  have hx:=ha.head
  have e1:val b (x :: xs) % b=x:=by simp only [val];rw [Nat.add_mul_mod_self_left,Nat.mod_eq_of_lt hx]
  have e2:val b (x :: xs) / b=val b xs:=by simp only [val];rw [Nat.add_mul_div_left _ _ (by omega),Nat.div_eq_of_lt hx];omega
  rw [e1,e2,ih ha.tail ht.tail]
def cQ (xs:List Nat):Nat->Nat
 | 0=>0
 | k+1=>if nth xs k=0 then cQ xs k else k+1
theorem ee (xs:List Nat) (k:Nat):cQ xs k<=k:=by
 induction k with
 | zero=>exact Nat.le_refl _
 | succ k ih=>unfold cQ;split <;> omega
theorem H5 (xs:List Nat) (k:Nat):cQ xs k=0∨nth xs (cQ xs k-1)≠0:=by
 induction k with
 | zero=>exact .inl rfl
 | succ k ih=>
  unfold cQ
  split
  ·exact ih
  ·exact .inr (by simpa)
theorem wH (b:Nat) (xs:List Nat) (k:Nat) (h:k<=xs.length):val b (xs.take (cQ xs k))=val b (xs.take k):=by
 induction k with
 | zero=>rfl
 | succ k ih=>
  unfold cQ
  split
  ·rename_i h0
   rw [ih (by omega),fL b xs (by omega),h0];simp
  ·rfl
def trim (xs:List Nat):List Nat:=xs.take (cQ xs xs.length)
theorem cR (xs:List Nat):(trim xs).length=cQ xs xs.length:=by
 rw [trim,List.length_take,Nat.min_eq_left (ee _ _)]
theorem ct {b:Nat} (hb:2<=b){xs:List Nat} (h:All b xs):trim xs=af b (val b xs):=by
 have e:val b (trim xs)=val b xs:=by
  have:=wH b xs xs.length (Nat.le_refl _)
  rwa [List.take_length] at this
 have t:fk (trim xs):=by
  rcases H5 xs xs.length with h0 | h0
  ·exact .inl (by rw [trim,h0];rfl)
  ·by_cases hz:cQ xs xs.length=0
   ·exact .inl (by rw [trim,hz];rfl)
   ·refine .inr ?_
    rw [cR,trim,dM _ (by omega)]
    exact h0
 have k:=qh hb (h.take (cQ xs xs.length)) (show fk (xs.take (cQ xs xs.length)) from t)
 rw [<- e]
 exact k.symm
theorem eF {b:Nat} (hb:2<=b) (k:Nat):∀n,n<b ^ k->(af b n).length<=k:=by
 induction k with
 | zero=>intro n h;obtain rfl:n=0:=(by simpa using h);simp [fK]
 | succ k ih=>
  intro n h
  by_cases h0:n=0
  ·subst h0;simp [fK]
  ·rw [fm hb (by omega),List.length_cons]
   have:=ih (n / b) (by rw [Nat.div_lt_iff_lt_mul (by omega)];rwa [Nat.pow_succ] at h)
   omega
theorem fh {b:Nat} (hb:2<=b) (n:Nat):n<b ^ (af b n).length:=by
 have:=cX (cY hb n)
 rwa [bI hb] at this
theorem wI {b:Nat} (hb:2<=b){n k:Nat} (h:k<(af b n).length):b ^ k<=n:=by
 rcases Nat.lt_or_ge n (b ^ k) with h1 | h1
 ·have:=eF hb k n h1;omega
 ·exact h1
theorem tc {b:Nat} (hb:2<=b){m n:Nat} (h:(af b m).length<(af b n).length):m<n:=
 Nat.lt_of_lt_of_le (fh hb m) (wI hb h)
theorem qH {b:Nat} (hb:2<=b){n:Nat}:af b n = [] ↔ n=0:=by
 constructor
 ·intro h;rw [<- bI hb n,h];rfl
 ·rintro rfl;rfl
theorem o6 {b:Nat} (hb:2<=b){n:Nat}:(af b n).length=0 ↔ n=0:=by
 rw [List.length_eq_zero_iff,qH hb]
theorem wJ {b:Nat} (hb:2<=b) (k:Nat):∀n,nth (af b n) k=n / b ^ k % b:=by
 induction k with
 | zero=>
  intro n
  by_cases h0:n=0
  ·subst h0;simp [fK,nth]
  ·rw [fm hb (by omega)];simp [nth]
 | succ k ih=>
  intro n
  by_cases h0:n=0
  ·subst h0;simp [fK,nth]
  ·rw [fm hb (by omega)]
   have:nth (n % b :: af b (n / b)) (k+1)=nth (af b (n / b)) k:=by simp [nth]
   rw [this,ih,Nat.div_div_eq_div_mul,Nat.pow_succ,Nat.mul_comm b]
theorem qI {b n:Nat} (hb:2<=b) (h0:0<n) (h:n<b):af b n = [n]:=by
 rw [fm hb h0,Nat.mod_eq_of_lt h,Nat.div_eq_of_lt h,fK]
def ij (m n:Nat):Int:=if m<n then -1 else if m=n then 0 else 1
theorem gD {m n:Nat} (h:m<n):ij m n = -1:=by simp [ij,h]
theorem qf (n:Nat):ij n n=0:=by simp [ij]
theorem mS {m n:Nat} (h:n<m):ij m n=1:=by
 unfold ij
 rw [if_neg (by omega),if_neg (by omega)]
theorem ej {b:Nat} (xs:List Nat):val b (trim xs)=val b xs:=by
 have:=wH b xs xs.length (Nat.le_refl _)
 rwa [List.take_length] at this
theorem mR {b:Nat}{a c:List Nat}{k:Nat} (hk:k<a.length) (hk':k<c.length) (hd:a.drop (k+1)=c.drop (k+1)) (ha:All b a)
  (h:nth a k<nth c k):val b a<val b c:=by
 have e1:=o7 b a (k:=k) (by omega)
 have e2:=o7 b c (k:=k) (by omega)
 rw [dw b a hk,hd] at e1
 rw [dw b c hk'] at e2
 have l1:=cX (ha.take k)
 rw [List.length_take,Nat.min_eq_left (by omega)] at l1
 have m1:b ^ k*(nth a k+1)<=b ^ k*nth c k:=Nat.mul_le_mul_left _ h
 rw [Nat.mul_add] at m1 e1 e2
 omega
def pre (f:Nat->Nat) (k:Nat):List Nat:=(List.range k).map f
theorem ce (f:Nat->Nat) (k:Nat):(pre f k).length=k:=by simp [pre]
theorem dG (f:Nat->Nat){k j:Nat} (h:j<k):nth (pre f k) j=f j:=by simp [nth,pre,h]
theorem qJ (f:Nat->Nat) (k:Nat):pre f (k+1)=pre f k ++ [f k]:=by simp [pre,List.range_succ]
theorem di (b:Nat) (f:Nat->Nat) (k:Nat):val b (pre f (k+1))=val b (pre f k)+b ^ k*f k:=by rw [qJ,tF,ce]
theorem d8 {b:Nat}{f:Nat->Nat}{k:Nat} (h:∀j,j<k->f j<b):All b (pre f k):=by
 refine All.of fun j hj=>?_
 rw [ce] at hj
 rw [dG f hj]
 exact h j hj
theorem Ef {f g:Nat->Nat}{k:Nat} (h:∀j,j<k->f j=g j):pre f k=pre g k:=by
 refine qu (by rw [ce,ce]) fun j hj=>?_
 rw [ce] at hj
 rw [dG f hj,dG g hj,h j hj]
theorem pO (xs:List Nat){k:Nat} (h:k<=xs.length):pre (nth xs) k=xs.take k:=by
 refine qu (by rw [ce,List.length_take,Nat.min_eq_left h]) fun j hj=>?_
 rw [ce] at hj
 rw [dG _ hj,dM _ hj]
theorem vi (xs:List Nat):pre (nth xs) xs.length=xs:=by rw [pO xs (Nat.le_refl _),List.take_length]
theorem db (b:Nat) (xs:List Nat){k:Nat} (h:xs.length<=k):val b (pre (nth xs) k)=val b xs:=by
 obtain ⟨d,rfl⟩:∃d,k=xs.length+d:=⟨k-xs.length,by omega⟩
 induction d with
 | zero=>rw [Nat.add_zero,vi]
 | succ d ih=>rw [<- Nat.add_assoc,di,ih (by omega),cP xs (by omega)];simp
def a7 (b:Nat) (f g:Nat->Nat):Nat->Nat
 | 0=>0
 | k+1=>(a7 b f g k+(f k+g k)) / b
def cE (b:Nat) (f g:Nat->Nat) (k:Nat):Nat:=(a7 b f g k+(f k+g k)) % b
theorem qg {b:Nat}{f g:Nat->Nat} (hf:∀j,f j<b) (hg:∀j,g j<b) (k:Nat):a7 b f g k<=1:=by
 induction k with
 | zero=>simp [a7]
 | succ k ih=>
  have h1:=hf k
  have h2:=hg k
  have h3:a7 b f g k+(f k+g k)<b*2:=by omega
  have h4:=Nat.div_lt_of_lt_mul h3
  simp only [a7]
  omega
theorem mU {b:Nat} (hb:0<b) (f g:Nat->Nat) (k:Nat):cE b f g k<b:=Nat.mod_lt _ hb
theorem kO (b:Nat) (f g:Nat->Nat) (k:Nat):val b (pre (cE b f g) k)+b ^ k*a7 b f g k=val b (pre f k)+val b (pre g k):=by
 induction k with
 | zero=>simp [pre,val,a7]
 | succ k ih=>
  rw [di,di,di]
  have e:b ^ (k+1)*a7 b f g (k+1)+b ^ k*cE b f g k=b ^ k*(a7 b f g k+(f k+g k)):=by
   simp only [a7,cE]
   rw [Nat.pow_succ,Nat.mul_assoc,<- Nat.mul_add,Nat.div_add_mod]
  rw [Nat.mul_add,Nat.mul_add] at e
  omega
theorem aT {b:Nat} (hb:0<b){xs:List Nat} (h:All b xs) (j:Nat):nth xs j<b:=by
 by_cases hj:j<xs.length
 ·exact h.nth hj
 ·rw [cP xs (by omega)];exact hb
def dQ (f:Nat->Nat):Nat->Nat
 | 0=>0
 | k+1=>max (dQ f k) (f k)
def fI (f:Nat->Nat):Nat->Nat
 | 0=>0
 | k+1=>fI f k+f k
theorem Fy (f:Nat->Nat){j k:Nat} (h:j<k):f j<=dQ f k:=by
 induction k with
 | zero=>omega
 | succ k ih=>
  simp only [dQ]
  by_cases e:j=k
  ·subst e;exact Nat.le_max_right _ _
  ·exact Nat.le_trans (ih (by omega)) (Nat.le_max_left _ _)
theorem Ft (f:Nat->Nat){k m:Nat} (h:∀j,j<k->f j<=m):dQ f k<=m:=by
 induction k with
 | zero=>exact Nat.zero_le _
 | succ k ih=>exact Nat.max_le.2 ⟨ih fun j hj=>h j (by omega),h k (by omega)⟩
theorem Fw (f:Nat->Nat) (k:Nat) (h:dQ f k≠0):∃j,j<k∧dQ f k=f j:=by
 induction k with
 | zero=>exact absurd rfl h
 | succ k ih=>
  simp only [dQ] at h ⊢
  rcases Nat.le_total (dQ f k) (f k) with h1 | h1
  ·exact ⟨k,by omega,Nat.max_eq_right h1⟩
  ·rw [Nat.max_eq_left h1] at h ⊢
   obtain ⟨j,hj,e⟩:=ih h
   exact ⟨j,by omega,e⟩
theorem Fx (f:Nat->Nat){j k:Nat} (h:j<k):f j<=fI f k:=by
 induction k with
 | zero=>omega
 | succ k ih=>
  simp only [fI]
  by_cases e:j=k
  ·subst e;omega
  ·have:=ih (by omega);omega
theorem Kd {b:Nat}{xs:List Nat} (ha:All b xs) (hv:xs = []∨b ^ (xs.length-1)<=val b xs):fk xs:=by
 by_cases hn:xs = []
 ·exact .inl hn
 ·refine .inr fun h0=>?_
  rcases hv with hv | hv
  ·exact hn hv
  have hl:0<xs.length:=List.length_pos_iff.2 hn
  have e:=o7 b xs (k:=xs.length-1) (by omega)
  rw [dw b xs (by omega),h0,show xs.length-1+1=xs.length by omega,List.drop_length] at e
  have l:=cX (ha.take (xs.length-1))
  rw [List.length_take,Nat.min_eq_left (by omega)] at l
  simp only [val,Nat.mul_zero,Nat.add_zero] at e
  omega
theorem qj {b:Nat} (hb:2<=b){n:Nat} (h:(af b n).length≠0):b ^ ((af b n).length-1)<=n:=wI hb (by omega)
def aM (f g:Nat->Nat):Nat->Nat
 | 0=>0
 | k+1=>if f k<g k+aM f g k then 1 else 0
def pF (b:Nat) (f g:Nat->Nat) (k:Nat):Nat:=(f k+b*aM f g (k+1))-(g k+aM f g k)
theorem kT (f g:Nat->Nat) (k:Nat):aM f g k<=1:=by
 cases k with
 | zero=>simp [aM]
 | succ k=>simp only [aM];split <;> omega
theorem mZ {b:Nat}{f g:Nat->Nat} (hg:∀j,g j<b) (k:Nat):pF b f g k+(g k+aM f g k)=f k+b*aM f g (k+1):=by
 have h1:=kT f g k
 have h2:=hg k
 simp only [pF,aM]
 split
 ·rw [Nat.mul_one];omega
 ·rw [Nat.mul_zero];omega
theorem qn {b:Nat}{f g:Nat->Nat} (hf:∀j,f j<b) (k:Nat):pF b f g k<b:=by
 have h2:=hf k
 simp only [pF,aM]
 split
 ·rw [Nat.mul_one];omega
 ·rw [Nat.mul_zero];omega
theorem wK {b:Nat}{f g:Nat->Nat} (hg:∀j,g j<b) (k:Nat):val b (pre (pF b f g) k)+val b (pre g k)=val b (pre f k)+b ^ k*aM f g k:=by
 induction k with
 | zero=>simp [pre,val,aM]
 | succ k ih=>
  rw [di,di,di]
  have e:=congrArg (fun x=>b ^ k*x) (mZ hg k:pF b f g k+(g k+aM f g k)=f k+b*aM f g (k+1))
  simp only [Nat.mul_add] at e
  rw [Nat.pow_succ,Nat.mul_assoc]
  omega
theorem wb {b:Nat}{xs ys:List Nat} (ax:All b xs) (ay:All b ys) (h0:0<b) (hl:ys.length<=xs.length) (h:val b ys<=val b xs):aM (nth xs) (nth ys) xs.length=0:=by
 have e:=wK (f:=nth xs) (aT h0 ay) xs.length
 rw [db _ xs (Nat.le_refl _),db _ ys hl] at e
 have l:=cX (d8 (k:=xs.length) (fun j _=>qn (g:=nth ys) (aT h0 ax) j))
 rw [ce] at l
 have c:=kT (nth xs) (nth ys) xs.length
 by_cases hc:aM (nth xs) (nth ys) xs.length=0
 ·exact hc
 ·rw [show aM (nth xs) (nth ys) xs.length=1 by omega] at e
  omega
theorem wd {b:Nat}{xs ys:List Nat} (ax:All b xs) (ay:All b ys) (h0:0<b) (hl:ys.length<=xs.length) (h:val b ys<=val b xs) :
  val b (pre (pF b (nth xs) (nth ys)) xs.length)=val b xs-val b ys:=by
 have e:=wK (f:=nth xs) (aT h0 ay) xs.length
 rw [db _ xs (Nat.le_refl _),db _ ys hl,wb ax ay h0 hl h] at e
 omega
theorem wL {xs ys:List Nat}{k:Nat} (h:aM (nth xs) (nth ys) k=0) (hk:ys.length<=k) (j:Nat):aM (nth xs) (nth ys) (k+j)=0:=by
 induction j with
 | zero=>exact h
 | succ j ih=>
  rw [<- Nat.add_assoc]
  simp only [aM]
  rw [ih,cP ys (by omega)]
  simp
theorem FF {b:Nat}{xs ys:List Nat}{k:Nat} (h:aM (nth xs) (nth ys) k=0) (hk:ys.length<=k){j:Nat} (hj:k<=j):pF b (nth xs) (nth ys) j=nth xs j:=by
 obtain ⟨d,rfl⟩:∃d,j=k+d:=⟨j-k,by omega⟩
 simp only [pF]
 rw [wL h hk d,Nat.add_assoc,wL h hk (d+1),cP ys (by omega)]
 simp
def chC (b:Nat) (s:Nat->Nat) (c0:Nat):Nat->Nat
 | 0=>c0
 | k+1=>(chC b s c0 k+s k) / b
def eG (b:Nat) (s:Nat->Nat) (c0 k:Nat):Nat:=(chC b s c0 k+s k) % b
theorem qq (b:Nat) (s:Nat->Nat) (c0 k:Nat):val b (pre (eG b s c0) k)+b ^ k*chC b s c0 k=c0+val b (pre s k):=by
 induction k with
 | zero=>simp [pre,val,chC]
 | succ k ih=>
  rw [di,di]
  have e:b ^ (k+1)*chC b s c0 (k+1)+b ^ k*eG b s c0 k=b ^ k*(chC b s c0 k+s k):=by
   simp only [chC,eG]
   rw [Nat.pow_succ,Nat.mul_assoc,<- Nat.mul_add,Nat.div_add_mod]
  rw [Nat.mul_add] at e
  omega
theorem qp {b:Nat} (hb:0<b) (s:Nat->Nat) (c0 k:Nat):eG b s c0 k<b:=Nat.mod_lt _ hb
theorem val_mul (b m:Nat) (f:Nat->Nat) (k:Nat):val b (pre (fun j=>f j*m) k)=val b (pre f k)*m:=by
 induction k with
 | zero=>simp [pre,val]
 | succ k ih=>rw [di,di,ih,Nat.add_mul,Nat.mul_assoc]
theorem val_add (b:Nat) (f g:Nat->Nat) (k:Nat):val b (pre (fun j=>f j+g j) k)=val b (pre f k)+val b (pre g k):=by
 induction k with
 | zero=>simp [pre,val]
 | succ k ih=>rw [di,di,di,ih,Nat.mul_add];omega
theorem qo {b m:Nat}{s:Nat->Nat}{c0:Nat} (hs:∀j,s j+m<=b*m) (h0:c0<m) (k:Nat):chC b s c0 k<m:=by
 induction k with
 | zero=>exact h0
 | succ k ih=>
  simp only [chC]
  have:=hs k
  exact Nat.div_lt_of_lt_mul (by omega)
theorem FK {x b m:Nat} (h:x<b):x*m+m<=b*m:=by
 have:=Nat.mul_le_mul_right m (show x+1<=b from h)
 rw [Nat.add_mul,Nat.one_mul] at this
 exact this
theorem FN {b d:Nat} (hb:2<=b) (hd:0<d) (hdb:b % d=0) (xs:List Nat){i:Nat} (hi:i<xs.length) :
  (nth xs (i+1)*b+nth xs i) / d % b=nth (af b (val b xs / d)) i∨¬All b xs:=by
 by_cases ha:All b xs
 ·refine .inl ?_
  rw [wJ hb,Nat.div_div_eq_div_mul,Nat.mul_comm d,<- Nat.div_div_eq_div_mul]
  have e1:val b xs / b ^ i=val b (xs.drop i):=by
   rw [o7 b xs (k:=i) (by omega)]
   have l:=cX (ha.take i)
   rw [List.length_take,Nat.min_eq_left (by omega)] at l
   rw [Nat.add_mul_div_left _ _ (Nat.pow_pos (by omega)),Nat.div_eq_of_lt l,Nat.zero_add]
  rw [e1,dw b xs hi]
  obtain ⟨q,hq⟩:∃q,b=d*q:=⟨b / d,(Nat.mul_div_cancel' (Nat.dvd_of_mod_eq_zero hdb)).symm⟩
  have e2:val b (xs.drop (i+1))=nth xs (i+1)+b*val b (xs.drop (i+2)):=by
   by_cases h:i+1<xs.length
   ·exact dw b xs h
   ·rw [List.drop_of_length_le (by omega),List.drop_of_length_le (by omega),cP xs (by omega)];rfl
  rw [e2]
  generalize val b (xs.drop (i+2))=R
  generalize nth xs (i+1)=y
  generalize nth xs i=x
  have e3:x+b*(y+b*R)=(y*b+x)+d*(b*(q*R)):=by
   have:b*(b*R)=d*(b*(q*R)):=by
    calc b*(b*R)=b*((d*q)*R):=by rw [<- hq]
     _=d*(b*(q*R)):=by rw [Nat.mul_assoc,Nat.mul_left_comm]
   rw [Nat.mul_add,this,Nat.mul_comm b y]
   omega
  rw [e3,Nat.add_mul_div_left _ _ hd,Nat.add_mul_mod_self_left]
 ·exact .inr ha
theorem FP {b n k:Nat} (hb:2<=b) (h1:b ^ k<=n) (h2:n<b ^ (k+1)):(af b n).length=k+1:=by
 have h3:=eF hb (k+1) n h2
 rcases Nat.lt_or_ge k (af b n).length with h | h
 ·omega
 ·have:=fh hb n
  have h4:b ^ (af b n).length<=b ^ k:=Nat.pow_le_pow_right (by omega) h
  omega
theorem D6 {b:Nat}{xs:List Nat} (ha:All b xs){k:Nat} (hk:k<=xs.length):val b (xs.drop k)=val b xs / b ^ k:=by
 rw [o7 b xs hk]
 have l:=cX (ha.take k)
 rw [List.length_take,Nat.min_eq_left hk] at l
 rw [Nat.add_mul_div_left _ _ (by omega),Nat.div_eq_of_lt l,Nat.zero_add]
def patch (Y Z:List Nat) (k n cy:Nat):List Nat:=Y.take k ++ (Z ++ (cy :: Y.drop (k+n+1)))
theorem Ga {Y Z:List Nat}{k n cy:Nat} (h:k+n<Y.length) (hZ:Z.length=n):(patch Y Z k n cy).length=Y.length:=by
 simp [patch,hZ];omega
theorem FW {Y Z:List Nat}{k n cy j:Nat} (h:k+n<Y.length) (hj:j<k):nth (patch Y Z k n cy) j=nth Y j:=by
 rw [patch,kX _ _ (by rw [List.length_take];omega),dM _ hj]
theorem FX {Y Z:List Nat}{k n cy j:Nat} (h:k+n<Y.length) (hZ:Z.length=n) (hj:j<n):nth (patch Y Z k n cy) (k+j)=nth Z j:=by
 have ht:(Y.take k).length=k:=by rw [List.length_take];omega
 rw [patch,gL _ _ (by omega),ht,Nat.add_sub_cancel_left,kX _ _ (by omega)]
theorem FV {Y Z:List Nat}{k n cy:Nat} (h:k+n<Y.length) (hZ:Z.length=n):nth (patch Y Z k n cy) (k+n)=cy:=by
 have ht:(Y.take k).length=k:=by rw [List.length_take];omega
 rw [patch,gL _ _ (by omega),ht,Nat.add_sub_cancel_left,gL _ _ (by omega),hZ,Nat.sub_self]
 simp [nth]
theorem FY {Y Z:List Nat}{k n cy j:Nat} (h:k+n<Y.length) (hZ:Z.length=n) (hj:k+n<j):nth (patch Y Z k n cy) j=nth Y j:=by
 have ht:(Y.take k).length=k:=by rw [List.length_take];omega
 rw [patch,gL _ _ (by omega),ht,gL _ _ (by omega),hZ]
 obtain ⟨i,rfl⟩:∃i,j=k+n+1+i:=⟨j-(k+n+1),by omega⟩
 rw [show k+n+1+i-k-n=i+1 by omega]
 have:nth (cy :: Y.drop (k+n+1)) (i+1)=nth (Y.drop (k+n+1)) i:=by simp [nth]
 rw [this,fJ]
theorem F9 {b:Nat}{Y Z:List Nat}{k n cy:Nat} (aY:All b Y) (aZ:All b Z) (hc:cy<b):All b (patch Y Z k n cy):=
 (aY.take k).app (aZ.app (All.cons hc (aY.drop _)))
theorem H6 {Y Z:List Nat}{k n cy:Nat} (h:k+n<Y.length) (hZ:Z.length=n):(patch Y Z k n cy).drop (k+n+1)=Y.drop (k+n+1):=by
 have ht:(Y.take k).length=k:=by rw [List.length_take];omega
 rw [patch,List.drop_append,ht,List.drop_of_length_le (by omega),List.nil_append,List.drop_append,hZ,List.drop_of_length_le (by omega),List.nil_append]
 rw [show k+n+1-k-n=1 by omega,List.drop_succ_cons,List.drop_zero]
theorem F5 {b:Nat}{Y Z:List Nat}{k n cy T:Nat} (h:k+n<Y.length) (hb:0<b) (hz:val b (Y.drop (k+n))=0) (hZ:Z.length=n)
  (hv:val b Z+b ^ n*cy=T+val b ((Y.drop k).take n)):val b (patch Y Z k n cy)=val b Y+b ^ k*T∧val b ((patch Y Z k n cy).drop (k+1+n))=0:=by
 have ht:(Y.take k).length=k:=by rw [List.length_take];omega
 have e0:=dw b Y (k:=k+n) h
 rw [hz] at e0
 have z1:val b (Y.drop (k+n+1))=0:=by
  rcases Nat.eq_zero_or_pos (val b (Y.drop (k+n+1))) with h1 | h1
  ·exact h1
  ·have:=Nat.mul_pos hb h1;omega
 constructor
 ·have e1:=o7 b Y (k:=k) (by omega)
  have e2:=o7 b (Y.drop k) (k:=n) (by rw [List.length_drop];omega)
  rw [List.drop_drop,hz] at e2
  rw [patch,jq,jq,ht,hZ]
  simp only [val,z1,Nat.mul_zero,Nat.add_zero] at e2 ⊢
  rw [hv,e1,e2,Nat.mul_add]
  omega
 ·rw [show k+1+n=k+n+1 by omega,H6 h hZ,z1]
theorem jo {xs:List Nat}{k:Nat} (t:Nat) (h:k<xs.length):nth (xs.set k t) k=t:=by simp [nth,h]
theorem m5 (xs:List Nat){k j:Nat} (t:Nat) (h:j≠k):nth (xs.set k t) j=nth xs j:=by
 simp [nth,List.getElem?_set_ne (show k≠j from fun e=>h e.symm)]
theorem All.set {b t:Nat}{xs:List Nat} (h:All b xs) (ht:t<b) (k:Nat):All b (xs.set k t):=by
 intro y hy
 rcases List.mem_or_eq_of_mem_set hy with h1 | h1
 ·exact h y h1
 ·subst h1;exact ht
theorem kV {b k:Nat}{xs:List Nat} (t:Nat) (h:k<xs.length):val b ((xs.set k t).drop k)=t+b*val b (xs.drop (k+1)):=by
 rw [dw b _ (by rw [List.length_set];exact h),jo t h,List.drop_set_of_lt (by omega)]
theorem wN {m n:Nat}:ij m n<=0 ↔ m<=n:=by
 unfold ij
 rcases Nat.lt_trichotomy m n with h | h | h
 ·rw [if_pos h];omega
 ·subst h;simp
 ·rw [if_neg (by omega),if_neg (by omega)];omega
theorem pT {m n:Nat} (h:n<=m):0<=ij m n:=by
 unfold ij
 rw [if_neg (by omega)]
 split <;> omega
def cl (b:Nat) (p y:Nat->Nat) (x:Nat):Nat->Nat
 | 0=>0
 | k+1=>(cl b p y x k+x*y k) / b+if p k<(cl b p y x k+x*y k) % b then 1 else 0
def iB (b:Nat) (p y:Nat->Nat) (x k:Nat):Nat:=
 if p k<(cl b p y x k+x*y k) % b then p k+b-(cl b p y x k+x*y k) % b else p k-(cl b p y x k+x*y k) % b
theorem H7 {b:Nat} (hb:0<b) (p y:Nat->Nat) (x k:Nat):iB b p y x k+(cl b p y x k+x*y k)=p k+b*cl b p y x (k+1):=by
 simp only [iB,cl]
 generalize cl b p y x k+x*y k=t
 have h1:=Nat.div_add_mod t b
 have h2:=Nat.mod_lt t hb
 rw [Nat.mul_add]
 split
 ·rw [Nat.mul_one];omega
 ·rw [Nat.mul_zero];omega
theorem GD {b:Nat}{p y:Nat->Nat}{x:Nat} (hx:x<b) (hy:∀j,y j<b) (k:Nat):cl b p y x k<b:=by
 induction k with
 | zero=>simp only [cl];omega
 | succ k ih=>
  simp only [cl]
  have h1:x*y k<=(b-1)*(b-1):=Nat.mul_le_mul (by omega) (by have:=hy k;omega)
  obtain ⟨d,rfl⟩:∃d,b=d+1:=⟨b-1,by omega⟩
  rw [Nat.add_sub_cancel] at h1
  generalize ht:cl (d+1) p y x k+x*y k=t at *
  have h2:t<=d*(d+1):=by rw [Nat.mul_add,Nat.mul_one];omega
  have h3:t / (d+1)<=d:=by
   have:=Nat.div_le_div_right (c:=d+1) h2
   rwa [Nat.mul_div_cancel _ (by omega)] at this
  split
  ·rename_i h4
   by_cases h5:t / (d+1)=d
   ·have h6:=Nat.div_add_mod t (d+1)
    rw [h5,Nat.mul_comm] at h6
    omega
   ·omega
  ·omega
theorem GE {b:Nat}{p y:Nat->Nat}{x:Nat} (hb:0<b) (hp:∀j,p j<b) (k:Nat):iB b p y x k<b:=by
 have h1:=hp k
 have h2:=Nat.mod_lt (cl b p y x k+x*y k) hb
 simp only [iB]
 split <;> omega
theorem GF {b:Nat} (hb:0<b) (p y:Nat->Nat) (x k:Nat):val b (pre (iB b p y x) k)+x*val b (pre y k)=val b (pre p k)+b ^ k*cl b p y x k:=by
 induction k with
 | zero=>simp [pre,val,cl]
 | succ k ih=>
  rw [di,di,di]
  have e:=congrArg (fun z=>b ^ k*z) (H7 hb p y x k)
  simp only [Nat.mul_add] at e
  rw [Nat.mul_add,Nat.mul_left_comm x (b ^ k),Nat.pow_succ,Nat.mul_assoc]
  omega
def over (R Z:List Nat) (k:Nat):List Nat:=R.take k ++ (Z ++ R.drop (k+Z.length))
theorem fM {R Z:List Nat}{k:Nat} (h:k+Z.length<=R.length):(over R Z k).length=R.length:=by
 simp [over];omega
theorem GM {b:Nat}{R Z:List Nat} (hR:All b R) (hZ:All b Z) (k:Nat):All b (over R Z k):=(hR.take k).app (hZ.app (hR.drop _))
theorem m9 {R Z:List Nat}{k j:Nat} (h:k+Z.length<=R.length) (hj:j<Z.length):nth (over R Z k) (k+j)=nth Z j:=by
 have ht:(R.take k).length=k:=by rw [List.length_take];omega
 rw [over,gL _ _ (by omega),ht,Nat.add_sub_cancel_left,kX _ _ hj]
theorem na {R Z:List Nat}{k j:Nat} (h:k+Z.length<=R.length) (hj:j<k∨k+Z.length<=j):nth (over R Z k) j=nth R j:=by
 have ht:(R.take k).length=k:=by rw [List.length_take];omega
 rcases hj with hj | hj
 ·rw [over,kX _ _ (by omega),dM _ hj]
 ·rw [over,gL _ _ (by omega),ht,gL _ _ (by omega),fJ]
  congr 1
  omega
theorem GL {b:Nat}{R Z:List Nat}{k:Nat} (h:k+Z.length<=R.length) (hz:val b (R.drop (k+Z.length))=0):val b (over R Z k)=val b (R.take k)+b ^ k*val b Z:=by
 have ht:(R.take k).length=k:=by rw [List.length_take];omega
 rw [over,jq,jq,ht,hz];simp
theorem ws {b:Nat}{R:List Nat}{k n D:Nat} (hb:0<b) (hk:k+n+1<=R.length) (hD:D<b ^ n) (hv:val b R<D*b ^ (k+1)) :
  val b R=val b (R.take k)+b ^ k*val b ((R.drop k).take (n+1))∧val b ((R.drop k).take (n+1))<D*b∧val b (R.drop (k+n+1))=0:=by
 have e1:=o7 b R (k:=k) (by omega)
 have hp:0<b ^ k:=Nat.pow_pos hb
 have l1:val b (R.drop k)<D*b:=by
  have h1:b ^ k*val b (R.drop k)<b ^ k*(D*b):=by
   have:D*b ^ (k+1)=b ^ k*(D*b):=by rw [Nat.pow_succ,Nat.mul_left_comm]
   omega
  exact Nat.lt_of_mul_lt_mul_left h1
 have e2:=o7 b (R.drop k) (k:=n+1) (by rw [List.length_drop];omega)
 rw [List.drop_drop,show k+(n+1)=k+n+1 by omega] at e2
 have l2:D*b<=b ^ (n+1):=by rw [Nat.pow_succ];exact Nat.mul_le_mul_right b (Nat.le_of_lt hD)
 have z:val b (R.drop (k+n+1))=0:=by
  rcases Nat.eq_zero_or_pos (val b (R.drop (k+n+1))) with h | h
  ·exact h
  ·have:=Nat.mul_le_mul_left (b ^ (n+1)) h
   omega
 rw [z,Nat.mul_zero,Nat.add_zero] at e2
 exact ⟨by rw [<- e2];exact e1,by rw [<- e2];exact l1,z⟩
theorem GP {A B Q R t:Nat} (ht:0<t) (h:A*t=B*t*Q+R) (hR:R<B*t):A / B=Q∧A % B=R / t:=by
 have hB:0<B:=Nat.pos_of_ne_zero (fun h0=>by subst h0;omega)
 have e1:B*t*Q=B*Q*t:=by rw [Nat.mul_right_comm]
 have e2:B*Q<=A:=by
  have:B*Q*t<=A*t:=by omega
  exact Nat.le_of_mul_le_mul_right this ht
 obtain ⟨r,rfl⟩:∃r,A=B*Q+r:=⟨A-B*Q,by omega⟩
 have e3:R=r*t:=by rw [Nat.add_mul] at h;omega
 have e4:r<B:=by rw [e3] at hR;exact Nat.lt_of_mul_lt_mul_right hR
 constructor
 ·rw [Nat.mul_add_div hB,Nat.div_eq_of_lt e4];omega
 ·rw [Nat.mul_add_mod,Nat.mod_eq_of_lt e4,e3,Nat.mul_div_cancel _ ht]
theorem mend {P D q z z2 cc M:Nat} (hD:0<D) (hq:q<=P / D+1) (hs:P<q*D) (h1:z+q*D=P+M) (h2:z2+M*cc=z+D) (hz2:z2<M) (hM:D<M):q-1=P / D∧z2=P % D:=by
 have e0:=Nat.div_add_mod P D
 have e1:=Nat.mod_lt P hD
 have e2:q=P / D+1:=by
  rcases Nat.lt_or_ge q (P / D+1) with h | h
  ·have:=Nat.mul_le_mul_right D (Nat.le_of_lt_succ h)
   rw [Nat.mul_comm (P / D)] at this
   omega
  ·exact Nat.le_antisymm hq h
 subst e2
 refine ⟨rfl,?_⟩
 rw [Nat.add_mul,Nat.one_mul,Nat.mul_comm (P / D)] at h1
 generalize P % D=r at *
 generalize D*(P / D)=x at *
 have h3:z2+M*cc=M+r:=by omega
 cases cc with
 | zero=>omega
 | succ cc=>
  rw [Nat.mul_add,Nat.mul_one] at h3
  cases cc with
  | zero=>omega
  | succ cc=>rw [Nat.mul_add,Nat.mul_one] at h3;omega
theorem Hj {P D q z:Nat} (hD:0<D) (lo:P / D<=q) (h1:z+q*D=P):q=P / D∧z=P % D:=by
 have e0:=Nat.div_add_mod P D
 have e2:q<=P / D:=by rw [Nat.le_div_iff_mul_le hD];omega
 have e3:q=P / D:=Nat.le_antisymm e2 lo
 refine ⟨e3,?_⟩
 rw [e3,Nat.mul_comm] at h1
 omega
def aD (n d:Int):Rat:=if d=0 then Rat.divInt n 1 else Rat.divInt n d
def pN (n d:Int):Int:=if d<0 then -n else n
def pD (d:Int):Int:=if d=0 then 1 else if d<0 then -d else d
theorem Ky (d:Int):0<pD d:=by unfold pD;split <;> (try split) <;> omega
theorem Kz (d:Int):pD d≠0:=by have:=Ky d;omega
theorem KA (n d:Int):aD n d=Rat.divInt (pN n d) (pD d):=by
 unfold aD pN pD
 by_cases h:d=0
 ·rw [if_pos h,if_pos h,if_neg (by omega)]
 ·rw [if_neg h,if_neg h]
  by_cases h2:d<0
  ·rw [if_pos h2,if_pos h2,Rat.neg_divInt_neg]
  ·rw [if_neg h2,if_neg h2]
theorem gR {n d:Int} (h:d≠0):aD n d=Rat.divInt n d:=by rw [aD,if_neg h]
theorem JK (n:Int):aD n 1=Rat.divInt n 1:=by rw [aD,if_neg (by omega)]
theorem KB (q:Rat):aD q.num q.den=q:=by
 rw [gR (by have:=q.den_nz;omega),Rat.num_divInt_den]
def bJ (n d:Int):Int:=if d<0 then -(Int.gcd n d:Int) else (Int.gcd n d:Int)
theorem KC {n d:Int} (hd:d≠0):0<(Int.gcd n d:Int):=by
 have:=Int.gcd_pos_of_ne_zero_right n hd
 omega
theorem eS {n d:Int} (hd:d≠0):bJ n d≠0:=by
 have:=KC (n:=n) hd
 unfold bJ;split <;> omega
theorem tG (n d:Int):bJ n d∣n:=by
 unfold bJ;split
 ·exact Int.neg_dvd.2 (Int.gcd_dvd_left ..)
 ·exact Int.gcd_dvd_left ..
theorem tI (n d:Int):bJ n d∣d:=by
 unfold bJ;split
 ·exact Int.neg_dvd.2 (Int.gcd_dvd_right ..)
 ·exact Int.gcd_dvd_right ..
theorem ld {n d:Int} (hd:d≠0):n / bJ n d=(Rat.divInt n d).num:=by
 rw [Rat.num_divInt,Int.gcd_comm d n]
 unfold bJ
 by_cases h:d<0
 ·rw [if_pos h,Int.sign_eq_neg_one_of_neg h,Int.ediv_neg,<- Int.neg_ediv_of_dvd (Int.gcd_dvd_left ..)]
  congr 1;omega
 ·rw [if_neg h,Int.sign_eq_one_of_pos (by omega),Int.one_mul]
theorem lf {n d:Int} (hd:d≠0):d / bJ n d=((Rat.divInt n d).den:Int):=by
 rw [Rat.den_divInt,if_neg hd,Int.gcd_comm d n]
 unfold bJ
 rw [Int.natCast_ediv]
 by_cases h:d<0
 ·rw [if_pos h,Int.ediv_neg,<- Int.neg_ediv_of_dvd (Int.gcd_dvd_right ..)]
  congr 1;omega
 ·rw [if_neg h];congr 1;omega
theorem o8 (n d:Int):(Rat.divInt n d).num.natAbs<=n.natAbs:=by
 by_cases hd:d=0
 ·subst hd;simp
 ·rw [<- ld hd];exact Int.natAbs_ediv_le_natAbs ..
theorem o9 {n d:Int} (hd:d≠0):(Rat.divInt n d).den<=d.natAbs:=by
 have h:=lf (n:=n) hd
 have h2:=Int.natAbs_ediv_le_natAbs d (bJ n d)
 rw [h] at h2
 simpa using h2
def pG (q r:Rat):Int:=if q<r then -1 else if q=r then 0 else 1
theorem Sa {n d m e:Int} (hd:0<d) (he:0<e):Rat.divInt n d<Rat.divInt m e ↔ n*e<m*d:=by
 have h1:(0:Rat)<(d:Rat):=Rat.intCast_pos.2 hd
 have h2:(0:Rat)<(e:Rat):=Rat.intCast_pos.2 he
 rw [Rat.divInt_eq_div,Rat.divInt_eq_div,Rat.div_lt_iff h1,Rat.div_def,Rat.mul_assoc,Rat.mul_comm (e:Rat)⁻¹,<- Rat.mul_assoc,<- Rat.div_def,Rat.lt_div_iff h2,<- Rat.intCast_mul,<- Rat.intCast_mul,Rat.intCast_lt_intCast]
theorem NS {n d m e:Int} (hd:0<d) (he:0<e):Rat.divInt n d=Rat.divInt m e ↔ n*e=m*d:=Rat.divInt_eq_divInt_iff (by omega) (by omega)
theorem Sb {n d m e:Int} (hd:0<d) (he:0<e):Rat.divInt n d+Rat.divInt m e=Rat.divInt (n*e+m*d) (d*e):=Rat.divInt_add_divInt _ _ (by omega) (by omega)
theorem Sc (n d m e:Int):Rat.divInt n d / Rat.divInt m e=Rat.divInt (n*e) (d*m):=by
 rw [Rat.div_def,Rat.inv_divInt,Rat.divInt_mul_divInt]
end Go.Proofs.YthmcngjhkmpneaaGreat
