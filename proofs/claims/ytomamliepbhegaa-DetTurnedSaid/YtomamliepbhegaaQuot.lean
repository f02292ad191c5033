/- Plain facts on numbers as rows of digits to a base, the lowest first: no program is spoken of here. Rational numbers as a numerator over a denominator; a denominator of 0 counts as 1. -/
import GoSem.Claim
namespace Go.Proofs.Ytomamliepbhegaa
def nth (xs:List Nat) (j:Nat):Nat:=xs.getD j 0
theorem iU (xs:List Nat){j:Nat} (h:j<xs.length):xs[j]=nth xs j:=by simp [nth,h]
theorem wP (xs:List Nat){j:Nat} (h:j<xs.length):xs[j]?=some (nth xs j):=by simp [nth,h]
theorem dR (xs:List Nat){j:Nat} (h:xs.length<=j):nth xs j=0:=by simp [nth,h]
theorem FX (xs:List Nat){j:Nat} (h:j<xs.length):nth xs j ∈ xs:=by rw [<- iU xs h];exact List.getElem_mem h
theorem LN (xs ys:List Nat){j:Nat} (h:j<xs.length):nth (xs ++ ys) j=nth xs j:=by simp [nth,List.getElem?_append,h]
theorem gg (xs ys:List Nat){j:Nat} (h:xs.length<=j):nth (xs ++ ys) j=nth ys (j-xs.length):=by
 simp [nth,List.getElem?_append_right h]
theorem eu (xs:List Nat){k j:Nat} (h:j<k):nth (xs.take k) j=nth xs j:=by simp [nth,h]
theorem Ly (xs:List Nat) (k j:Nat):nth (xs.drop k) j=nth xs (k+j):=by simp [nth,List.getElem?_drop]
theorem uD (xs:List Nat){k:Nat} (h:k<xs.length):xs.take (k+1)=xs.take k ++ [nth xs k]:=by
 rw [List.take_add_one,List.getElem?_eq_getElem h,iU xs h];rfl
theorem jT (xs:List Nat){k:Nat} (h:k<xs.length):xs.drop k=nth xs k :: xs.drop (k+1):=by
 rw [List.drop_eq_getElem_cons h,iU xs h]
theorem uE {xs ys:List Nat} (hl:xs.length=ys.length) (h:∀j,j<xs.length->nth xs j=nth ys j):xs=ys:=by
 apply List.ext_getElem hl
 intro j h1 h2
 rw [iU xs h1,iU ys h2,h j h1]
def All (b:Nat) (xs:List Nat):Prop:=∀x,x ∈ xs->x<b
theorem All.nth {b:Nat}{xs:List Nat} (h:All b xs){j:Nat} (hj:j<xs.length):nth xs j<b:=h _ (FX xs hj)
theorem All.of {b:Nat}{xs:List Nat} (h:∀j,j<xs.length->Go.Proofs.Ytomamliepbhegaa.nth xs j<b):All b xs:=by
 intro x hx
 obtain ⟨j,hj,rfl⟩:=List.getElem_of_mem hx
 rw [iU xs hj];exact h j hj
theorem All.nil (b:Nat):All b []:=fun _ h=>by cases h
theorem All.cons {b x:Nat}{xs:List Nat} (hx:x<b) (h:All b xs):All b (x :: xs):=by
 intro y hy
 rcases List.mem_cons.1 hy with rfl | hy
 ·exact hx
 ·exact h y hy
theorem All.head {b x:Nat}{xs:List Nat} (h:All b (x :: xs)):x<b:=h x (by simp)
theorem All.tail {b x:Nat}{xs:List Nat} (h:All b (x :: xs)):All b xs:=fun y hy=>h y (by simp [hy])
theorem All.app {b:Nat}{xs ys:List Nat} (h:All b xs) (k:All b ys):All b (xs ++ ys):=by
 intro y hy
 rcases List.mem_append.1 hy with hy | hy
 ·exact h y hy
 ·exact k y hy
theorem All.take {b:Nat}{xs:List Nat} (h:All b xs) (k:Nat):All b (xs.take k):=fun y hy=>h y (List.mem_of_mem_take hy)
theorem All.drop {b:Nat}{xs:List Nat} (h:All b xs) (k:Nat):All b (xs.drop k):=fun y hy=>h y (List.mem_of_mem_drop hy)
theorem All.mono {b c:Nat}{xs:List Nat} (h:All b xs) (hc:b<=c):All c xs:=fun y hy=>Nat.lt_of_lt_of_le (h y hy) hc
theorem All.iL {b x:Nat} (h:x<b) (n:Nat):All b (List.replicate n x):=fun y hy=>by rw [(List.mem_replicate.1 hy).2];exact h
def val (b:Nat):List Nat->Nat
 | []=>0
 | x :: xs=>x+b*val b xs
theorem iV (b:Nat) (xs ys:List Nat):val b (xs ++ ys)=val b xs+b ^ xs.length*val b ys:=by
 induction xs with
 | nil=>simp [val]
 | cons x xs ih=>simp only [List.cons_append,val,ih,List.length_cons,Nat.pow_succ,Nat.mul_add];rw [Nat.mul_comm (b ^ xs.length) b,Nat.mul_assoc];omega
theorem lK (b:Nat) (xs:List Nat) (y:Nat):val b (xs ++ [y])=val b xs+b ^ xs.length*y:=by rw [iV];simp [val]
theorem iM (b:Nat) (xs:List Nat){k:Nat} (h:k<xs.length):val b (xs.take (k+1))=val b (xs.take k)+b ^ k*nth xs k:=by
 rw [uD xs h,lK,List.length_take,Nat.min_eq_left (by omega)]
theorem fF (b:Nat) (xs:List Nat){k:Nat} (h:k<=xs.length):val b xs=val b (xs.take k)+b ^ k*val b (xs.drop k):=by
 have e:=iV b (xs.take k) (xs.drop k)
 rw [List.take_append_drop,List.length_take,Nat.min_eq_left h] at e
 exact e
theorem fG (b:Nat) (xs:List Nat){k:Nat} (h:k<xs.length):val b (xs.drop k)=nth xs k+b*val b (xs.drop (k+1)):=by
 rw [jT xs h];rfl
theorem gO (b n:Nat):val b (List.replicate n 0)=0:=by
 induction n with
 | zero=>rfl
 | succ n ih=>simp [List.replicate_succ,val,ih]
theorem fA {b:Nat}{xs:List Nat} (h:All b xs):val b xs<b ^ xs.length:=by
 induction xs with
 | nil=>simp [val]
 | cons x xs ih=>
  have h1:=h.head
  have h2:=ih h.tail
  simp only [val,List.length_cons,Nat.pow_succ]
  have h3:b*(val b xs+1)<=b*b ^ xs.length:=Nat.mul_le_mul_left b h2
  rw [Nat.mul_comm (b ^ xs.length) b]
  rw [Nat.mul_add] at h3
  omega
def eG (b:Nat):Nat->Nat->List Nat
 | 0,_=>[]
 | f+1,n=>if n=0 then [] else n % b :: eG b f (n / b)
def ak (b n:Nat):List Nat:=eG b n n
theorem FY {b:Nat} (hb:2<=b):∀f g n:Nat,n<=f->n<=g->eG b f n=eG b g n:=by
 intro f
 induction f with
 | zero=>
  intro g n h1 h2
  obtain rfl:n=0:=by omega
  cases g <;> simp [eG]
 | succ f ih=>
  intro g n h1 h2
  by_cases h0:n=0
  ·subst h0
   cases g <;> simp [eG]
  ·cases g with
   | zero=>omega
   | succ g=>
    have hd:n / b<n:=Nat.div_lt_self (by omega) (by omega)
    simp only [eG,if_neg h0]
    rw [ih g (n / b) (by omega) (by omega)]
theorem ff (b:Nat):ak b 0 = []:=rfl
theorem eS {b n:Nat} (hb:2<=b) (h:0<n):ak b n=n % b :: ak b (n / b):=by
 cases n with
 | zero=>omega
 | succ n=>
  have hd:(n+1) / b<n+1:=Nat.div_lt_self (by omega) (by omega)
  simp only [ak,eG,if_neg (Nat.succ_ne_zero n)]
  rw [FY hb n ((n+1) / b) ((n+1) / b) (by omega) (by omega)]
theorem oZ {b:Nat} (hb:2<=b){P:Nat->Prop} (h0:P 0) (h:∀n,0<n->P (n / b)->P n):∀n,P n:=by
 have aux:∀m n,n<=m->P n:=by
  intro m
  induction m with
  | zero=>intro n hn;obtain rfl:n=0:=(by omega);exact h0
  | succ m ih=>
   intro n hn
   by_cases hz:n=0
   ·subst hz;exact h0
   ·have hd:n / b<n:=Nat.div_lt_self (by omega) (by omega)
    exact h n (by omega) (ih _ (by omega))
 exact fun n=>aux n n (Nat.le_refl n)
theorem cT {b:Nat} (hb:2<=b):∀n,val b (ak b n)=n:=by
 refine oZ hb rfl ?_
 intro n hn ih
 rw [eS hb hn,val,ih]
 exact Nat.mod_add_div n b
theorem Lg {b:Nat} (hb:2<=b):∀n,All b (ak b n):=by
 refine oZ hb (All.nil b) ?_
 intro n hn ih
 rw [eS hb hn]
 exact All.cons (Nat.mod_lt _ (by omega)) ih
def eP (xs:List Nat):Prop:=xs = []∨nth xs (xs.length-1)≠0
theorem eP.tail {x:Nat}{xs:List Nat} (h:eP (x :: xs)):eP xs:=by
 cases xs with
 | nil=>exact .inl rfl
 | cons y ys=>
  refine .inr ?_
  rcases h with h | h
  ·cases h
  ·simpa [nth] using h
theorem FZ {b:Nat} (hb:0<b){xs:List Nat} (h:eP xs) (hne:xs ≠ []):0<val b xs:=by
 induction xs with
 | nil=>exact absurd rfl hne
 | cons x xs ih=>
  cases xs with
  | nil=>
   rcases h with h | h
   ·cases h
   ·simp [nth] at h;simp [val];omega
  | cons y ys=>
   have h1:=ih h.tail (by simp)
   simp only [val] at h1 ⊢
   have h2:0<b*(y+b*val b ys):=Nat.mul_pos hb h1
   omega
theorem CB {b:Nat} (hb:2<=b):∀n,eP (ak b n):=by
 refine oZ hb (.inl rfl) ?_
 intro n hn ih
 rw [eS hb hn]
 refine .inr ?_
 by_cases hq:n / b=0
 ·rw [hq,ff]
  have:n % b=n:=Nat.mod_eq_of_lt (by
   rcases Nat.lt_or_ge n b with h | h
   ·exact h
   ·have:=Nat.div_pos h (by omega:0<b);omega)
  simp [nth,this];omega
 ·rw [eS hb (Nat.pos_of_ne_zero hq)] at ih ⊢
  rcases ih with h | h
  ·cases h
  ·simpa [nth] using h
theorem nZ {b:Nat} (hb:2<=b){xs:List Nat} (ha:All b xs) (ht:eP xs):ak b (val b xs)=xs:=by
 induction xs with
 | nil=>rfl
 | cons x xs ih=>
  have hp:=FZ (b:=b) (by omega) ht (by simp)
  rw [eS hb hp]
  have hx:=ha.head
  have e1:val b (x :: xs) % b=x:=by simp only [val];rw [Nat.add_mul_mod_self_left,Nat.mod_eq_of_lt hx]
  have e2:val b (x :: xs) / b=val b xs:=by simp only [val];rw [Nat.add_mul_div_left _ _ (by omega),Nat.div_eq_of_lt hx];omega
  rw [e1,e2,ih ha.tail ht.tail]
def cH (xs:List Nat):Nat->Nat
 | 0=>0
 | k+1=>if nth xs k=0 then cH xs k else k+1
theorem eC (xs:List Nat) (k:Nat):cH xs k<=k:=by
 induction k with
 | zero=>exact Nat.le_refl _
 | succ k ih=>unfold cH;split <;> omega
theorem Ou (xs:List Nat) (k:Nat):cH xs k=0∨nth xs (cH xs k-1)≠0:=by
 induction k with
 | zero=>exact .inl rfl
 | succ k ih=>
  unfold cH
  split
  ·exact ih
  ·exact .inr (by simpa)
theorem uF (b:Nat) (xs:List Nat) (k:Nat) (h:k<=xs.length):val b (xs.take (cH xs k))=val b (xs.take k):=by
 induction k with
 | zero=>rfl
 | succ k ih=>
  unfold cH
  split
  ·rename_i h0
   rw [ih (by omega),iM b xs (by omega),h0];simp
  ·rfl
def trim (xs:List Nat):List Nat:=xs.take (cH xs xs.length)
theorem cU (xs:List Nat):(trim xs).length=cH xs xs.length:=by
 rw [trim,List.length_take,Nat.min_eq_left (eC _ _)]
theorem dQ {b:Nat} (hb:2<=b){xs:List Nat} (h:All b xs):trim xs=ak b (val b xs):=by
 have e:val b (trim xs)=val b xs:=by
  have:=uF b xs xs.length (Nat.le_refl _)
  rwa [List.take_length] at this
 have t:eP (trim xs):=by
  rcases Ou xs xs.length with h0 | h0
  ·exact .inl (by rw [trim,h0];rfl)
  ·by_cases hz:cH xs xs.length=0
   ·exact .inl (by rw [trim,hz];rfl)
   ·refine .inr ?_
    rw [cU,trim,eu _ (by omega)]
    exact h0
 have k:=nZ hb (h.take (cH xs xs.length)) (show eP (xs.take (cH xs xs.length)) from t)
 rw [<- e]
 exact k.symm
theorem eR {b:Nat} (hb:2<=b) (k:Nat):∀n,n<b ^ k->(ak b n).length<=k:=by
 induction k with
 | zero=>intro n h;obtain rfl:n=0:=(by simpa using h);simp [ff]
 | succ k ih=>
  intro n h
  by_cases h0:n=0
  ·subst h0;simp [ff]
  ·rw [eS hb (by omega),List.length_cons]
   have:=ih (n / b) (by rw [Nat.div_lt_iff_lt_mul (by omega)];rwa [Nat.pow_succ] at h)
   omega
theorem gh {b:Nat} (hb:2<=b) (n:Nat):n<b ^ (ak b n).length:=by
 have:=fA (Lg hb n)
 rwa [cT hb] at this
theorem uG {b:Nat} (hb:2<=b){n k:Nat} (h:k<(ak b n).length):b ^ k<=n:=by
 rcases Nat.lt_or_ge n (b ^ k) with h1 | h1
 ·have:=eR hb k n h1;omega
 ·exact h1
theorem jU {b:Nat} (hb:2<=b){m n:Nat} (h:(ak b m).length<(ak b n).length):m<n:=
 Nat.lt_of_lt_of_le (gh hb m) (uG hb h)
theorem Mh {b:Nat} (hb:2<=b){n:Nat}:ak b n = [] ↔ n=0:=by
 constructor
 ·intro h;rw [<- cT hb n,h];rfl
 ·rintro rfl;rfl
theorem fb {b:Nat} (hb:2<=b){n:Nat}:(ak b n).length=0 ↔ n=0:=by
 rw [List.length_eq_zero_iff,Mh hb]
theorem Ov {b:Nat} (hb:2<=b) (k:Nat):∀n,nth (ak b n) k=n / b ^ k % b:=by
 induction k with
 | zero=>
  intro n
  by_cases h0:n=0
  ·subst h0;simp [ff,nth]
  ·rw [eS hb (by omega)];simp [nth]
 | succ k ih=>
  intro n
  by_cases h0:n=0
  ·subst h0;simp [ff,nth]
  ·rw [eS hb (by omega)]
   have:nth (n % b :: ak b (n / b)) (k+1)=nth (ak b (n / b)) k:=by simp [nth]
   rw [this,ih,Nat.div_div_eq_div_mul,Nat.pow_succ,Nat.mul_comm b]
theorem Mi {b n:Nat} (hb:2<=b) (h0:0<n) (h:n<b):ak b n = [n]:=by
 rw [eS hb h0,Nat.mod_eq_of_lt h,Nat.div_eq_of_lt h,ff]
def bZ (m n:Nat):Int:=if m<n then -1 else if m=n then 0 else 1
theorem gN {m n:Nat} (h:m<n):bZ m n = -1:=by simp [bZ,h]
theorem nX (n:Nat):bZ n n=0:=by simp [bZ]
theorem lH {m n:Nat} (h:n<m):bZ m n=1:=by
 unfold bZ
 rw [if_neg (by omega),if_neg (by omega)]
theorem fc {b:Nat} (xs:List Nat):val b (trim xs)=val b xs:=by
 have:=uF b xs xs.length (Nat.le_refl _)
 rwa [List.take_length] at this
theorem lG {b:Nat}{a c:List Nat}{k:Nat} (hk:k<a.length) (hk':k<c.length) (hd:a.drop (k+1)=c.drop (k+1)) (ha:All b a)
  (h:nth a k<nth c k):val b a<val b c:=by
 have e1:=fF b a (k:=k) (by omega)
 have e2:=fF b c (k:=k) (by omega)
 rw [fG b a hk,hd] at e1
 rw [fG b c hk'] at e2
 have l1:=fA (ha.take k)
 rw [List.length_take,Nat.min_eq_left (by omega)] at l1
 have m1:b ^ k*(nth a k+1)<=b ^ k*nth c k:=Nat.mul_le_mul_left _ h
 rw [Nat.mul_add] at m1 e1 e2
 omega
def pre (f:Nat->Nat) (k:Nat):List Nat:=(List.range k).map f
theorem cO (f:Nat->Nat) (k:Nat):(pre f k).length=k:=by simp [pre]
theorem eD (f:Nat->Nat){k j:Nat} (h:j<k):nth (pre f k) j=f j:=by simp [nth,pre,h]
theorem Mj (f:Nat->Nat) (k:Nat):pre f (k+1)=pre f k ++ [f k]:=by simp [pre,List.range_succ]
theorem Lh (b:Nat) (f:Nat->Nat) (k:Nat):val b (pre f (k+1))=val b (pre f k)+b ^ k*f k:=by rw [Mj,lK,cO]
theorem ga {b:Nat}{f:Nat->Nat}{k:Nat} (h:∀j,j<k->f j<b):All b (pre f k):=by
 refine All.of fun j hj=>?_
 rw [cO] at hj
 rw [eD f hj]
 exact h j hj
theorem AF {f g:Nat->Nat}{k:Nat} (h:∀j,j<k->f j=g j):pre f k=pre g k:=by
 refine uE (by rw [cO,cO]) fun j hj=>?_
 rw [cO] at hj
 rw [eD f hj,eD g hj,h j hj]
theorem Ow (xs:List Nat){k:Nat} (h:k<=xs.length):pre (nth xs) k=xs.take k:=by
 refine uE (by rw [cO,List.length_take,Nat.min_eq_left h]) fun j hj=>?_
 rw [cO] at hj
 rw [eD _ hj,eu _ hj]
theorem sf (xs:List Nat):pre (nth xs) xs.length=xs:=by rw [Ow xs (Nat.le_refl _),List.take_length]
theorem dU (b:Nat) (xs:List Nat){k:Nat} (h:xs.length<=k):val b (pre (nth xs) k)=val b xs:=by
 obtain ⟨d,rfl⟩:∃d,k=xs.length+d:=⟨k-xs.length,by omega⟩
 induction d with
 | zero=>rw [Nat.add_zero,sf]
 | succ d ih=>rw [<- Nat.add_assoc,Lh,ih (by omega),dR xs (by omega)];simp
def bz (b:Nat) (f g:Nat->Nat):Nat->Nat
 | 0=>0
 | k+1=>(bz b f g k+(f k+g k)) / b
def cI (b:Nat) (f g:Nat->Nat) (k:Nat):Nat:=(bz b f g k+(f k+g k)) % b
theorem sV {b:Nat}{f g:Nat->Nat} (hf:∀j,f j<b) (hg:∀j,g j<b) (k:Nat):bz b f g k<=1:=by
 induction k with
 | zero=>simp [bz]
 | succ k ih=>
  have h1:=hf k
  have h2:=hg k
  have h3:bz b f g k+(f k+g k)<b*2:=by omega
  have h4:=Nat.div_lt_of_lt_mul h3
  simp only [bz]
  omega
theorem nY {b:Nat} (hb:0<b) (f g:Nat->Nat) (k:Nat):cI b f g k<b:=Nat.mod_lt _ hb
theorem lJ (b:Nat) (f g:Nat->Nat) (k:Nat):val b (pre (cI b f g) k)+b ^ k*bz b f g k=val b (pre f k)+val b (pre g k):=by
 induction k with
 | zero=>simp [pre,val,bz]
 | succ k ih=>
  rw [Lh,Lh,Lh]
  have e:b ^ (k+1)*bz b f g (k+1)+b ^ k*cI b f g k=b ^ k*(bz b f g k+(f k+g k)):=by
   simp only [bz,cI]
   rw [Nat.pow_succ,Nat.mul_assoc,<- Nat.mul_add,Nat.div_add_mod]
  rw [Nat.mul_add,Nat.mul_add] at e
  omega
theorem KV {b:Nat} (hb:0<b){xs:List Nat} (h:All b xs) (j:Nat):nth xs j<b:=by
 by_cases hj:j<xs.length
 ·exact h.nth hj
 ·rw [dR xs (by omega)];exact hb
def di (f:Nat->Nat):Nat->Nat
 | 0=>0
 | k+1=>max (di f k) (f k)
def fe (f:Nat->Nat):Nat->Nat
 | 0=>0
 | k+1=>fe f k+f k
theorem Cn (f:Nat->Nat){j k:Nat} (h:j<k):f j<=di f k:=by
 induction k with
 | zero=>omega
 | succ k ih=>
  simp only [di]
  by_cases e:j=k
  ·subst e;exact Nat.le_max_right _ _
  ·exact Nat.le_trans (ih (by omega)) (Nat.le_max_left _ _)
theorem Ch (f:Nat->Nat){k m:Nat} (h:∀j,j<k->f j<=m):di f k<=m:=by
 induction k with
 | zero=>exact Nat.zero_le _
 | succ k ih=>exact Nat.max_le.2 ⟨ih fun j hj=>h j (by omega),h k (by omega)⟩
theorem Ck (f:Nat->Nat) (k:Nat) (h:di f k≠0):∃j,j<k∧di f k=f j:=by
 induction k with
 | zero=>exact absurd rfl h
 | succ k ih=>
  simp only [di] at h ⊢
  rcases Nat.le_total (di f k) (f k) with h1 | h1
  ·exact ⟨k,by omega,Nat.max_eq_right h1⟩
  ·rw [Nat.max_eq_left h1] at h ⊢
   obtain ⟨j,hj,e⟩:=ih h
   exact ⟨j,by omega,e⟩
theorem Cm (f:Nat->Nat){j k:Nat} (h:j<k):f j<=fe f k:=by
 induction k with
 | zero=>omega
 | succ k ih=>
  simp only [fe]
  by_cases e:j=k
  ·subst e;omega
  ·have:=ih (by omega);omega
theorem sW {b:Nat}{xs:List Nat} (ha:All b xs) (hv:xs = []∨b ^ (xs.length-1)<=val b xs):eP xs:=by
 by_cases hn:xs = []
 ·exact .inl hn
 ·refine .inr fun h0=>?_
  rcases hv with hv | hv
  ·exact hn hv
  have hl:0<xs.length:=List.length_pos_iff.2 hn
  have e:=fF b xs (k:=xs.length-1) (by omega)
  rw [fG b xs (by omega),h0,show xs.length-1+1=xs.length by omega,List.drop_length] at e
  have l:=fA (ha.take (xs.length-1))
  rw [List.length_take,Nat.min_eq_left (by omega)] at l
  simp only [val,Nat.mul_zero,Nat.add_zero] at e
  omega
theorem Mc {b:Nat} (hb:2<=b){n:Nat} (h:(ak b n).length≠0):b ^ ((ak b n).length-1)<=n:=uG hb (by omega)
def aU (f g:Nat->Nat):Nat->Nat
 | 0=>0
 | k+1=>if f k<g k+aU f g k then 1 else 0
def dC (b:Nat) (f g:Nat->Nat) (k:Nat):Nat:=(f k+b*aU f g (k+1))-(g k+aU f g k)
theorem jZ (f g:Nat->Nat) (k:Nat):aU f g k<=1:=by
 cases k with
 | zero=>simp [aU]
 | succ k=>simp only [aU];split <;> omega
theorem lN {b:Nat}{f g:Nat->Nat} (hg:∀j,g j<b) (k:Nat):dC b f g k+(g k+aU f g k)=f k+b*aU f g (k+1):=by
 have h1:=jZ f g k
 have h2:=hg k
 simp only [dC,aU]
 split
 ·rw [Nat.mul_one];omega
 ·rw [Nat.mul_zero];omega
theorem Mf {b:Nat}{f g:Nat->Nat} (hf:∀j,f j<b) (k:Nat):dC b f g k<b:=by
 have h2:=hf k
 simp only [dC,aU]
 split
 ·rw [Nat.mul_one];omega
 ·rw [Nat.mul_zero];omega
theorem uH {b:Nat}{f g:Nat->Nat} (hg:∀j,g j<b) (k:Nat):val b (pre (dC b f g) k)+val b (pre g k)=val b (pre f k)+b ^ k*aU f g k:=by
 induction k with
 | zero=>simp [pre,val,aU]
 | succ k ih=>
  rw [Lh,Lh,Lh]
  have e:=congrArg (fun x=>b ^ k*x) (lN hg k:dC b f g k+(g k+aU f g k)=f k+b*aU f g (k+1))
  simp only [Nat.mul_add] at e
  rw [Nat.pow_succ,Nat.mul_assoc]
  omega
theorem MG {b:Nat}{xs ys:List Nat} (ax:All b xs) (ay:All b ys) (h0:0<b) (hl:ys.length<=xs.length) (h:val b ys<=val b xs):aU (nth xs) (nth ys) xs.length=0:=by
 have e:=uH (f:=nth xs) (KV h0 ay) xs.length
 rw [dU _ xs (Nat.le_refl _),dU _ ys hl] at e
 have l:=fA (ga (k:=xs.length) (fun j _=>Mf (g:=nth ys) (KV h0 ax) j))
 rw [cO] at l
 have c:=jZ (nth xs) (nth ys) xs.length
 by_cases hc:aU (nth xs) (nth ys) xs.length=0
 ·exact hc
 ·rw [show aU (nth xs) (nth ys) xs.length=1 by omega] at e
  omega
theorem MH {b:Nat}{xs ys:List Nat} (ax:All b xs) (ay:All b ys) (h0:0<b) (hl:ys.length<=xs.length) (h:val b ys<=val b xs) :
  val b (pre (dC b (nth xs) (nth ys)) xs.length)=val b xs-val b ys:=by
 have e:=uH (f:=nth xs) (KV h0 ay) xs.length
 rw [dU _ xs (Nat.le_refl _),dU _ ys hl,MG ax ay h0 hl h] at e
 omega
theorem uI {xs ys:List Nat}{k:Nat} (h:aU (nth xs) (nth ys) k=0) (hk:ys.length<=k) (j:Nat):aU (nth xs) (nth ys) (k+j)=0:=by
 induction j with
 | zero=>exact h
 | succ j ih=>
  rw [<- Nat.add_assoc]
  simp only [aU]
  rw [ih,dR ys (by omega)]
  simp
theorem Ct {b:Nat}{xs ys:List Nat}{k:Nat} (h:aU (nth xs) (nth ys) k=0) (hk:ys.length<=k){j:Nat} (hj:k<=j):dC b (nth xs) (nth ys) j=nth xs j:=by
 obtain ⟨d,rfl⟩:∃d,j=k+d:=⟨j-k,by omega⟩
 simp only [dC]
 rw [uI h hk d,Nat.add_assoc,uI h hk (d+1),dR ys (by omega)]
 simp
def chC (b:Nat) (s:Nat->Nat) (c0:Nat):Nat->Nat
 | 0=>c0
 | k+1=>(chC b s c0 k+s k) / b
def eQ (b:Nat) (s:Nat->Nat) (c0 k:Nat):Nat:=(chC b s c0 k+s k) % b
theorem te (b:Nat) (s:Nat->Nat) (c0 k:Nat):val b (pre (eQ b s c0) k)+b ^ k*chC b s c0 k=c0+val b (pre s k):=by
 induction k with
 | zero=>simp [pre,val,chC]
 | succ k ih=>
  rw [Lh,Lh]
  have e:b ^ (k+1)*chC b s c0 (k+1)+b ^ k*eQ b s c0 k=b ^ k*(chC b s c0 k+s k):=by
   simp only [chC,eQ]
   rw [Nat.pow_succ,Nat.mul_assoc,<- Nat.mul_add,Nat.div_add_mod]
  rw [Nat.mul_add] at e
  omega
theorem td {b:Nat} (hb:0<b) (s:Nat->Nat) (c0 k:Nat):eQ b s c0 k<b:=Nat.mod_lt _ hb
theorem val_mul (b m:Nat) (f:Nat->Nat) (k:Nat):val b (pre (fun j=>f j*m) k)=val b (pre f k)*m:=by
 induction k with
 | zero=>simp [pre,val]
 | succ k ih=>rw [Lh,Lh,ih,Nat.add_mul,Nat.mul_assoc]
theorem val_add (b:Nat) (f g:Nat->Nat) (k:Nat):val b (pre (fun j=>f j+g j) k)=val b (pre f k)+val b (pre g k):=by
 induction k with
 | zero=>simp [pre,val]
 | succ k ih=>rw [Lh,Lh,Lh,ih,Nat.mul_add];omega
theorem tc {b m:Nat}{s:Nat->Nat}{c0:Nat} (hs:∀j,s j+m<=b*m) (h0:c0<m) (k:Nat):chC b s c0 k<m:=by
 induction k with
 | zero=>exact h0
 | succ k ih=>
  simp only [chC]
  have:=hs k
  exact Nat.div_lt_of_lt_mul (by omega)
theorem CC {b n k:Nat} (hb:2<=b) (h1:b ^ k<=n) (h2:n<b ^ (k+1)):(ak b n).length=k+1:=by
 have h3:=eR hb (k+1) n h2
 rcases Nat.lt_or_ge k (ak b n).length with h | h
 ·omega
 ·have:=gh hb n
  have h4:b ^ (ak b n).length<=b ^ k:=Nat.pow_le_pow_right (by omega) h
  omega
def patch (Y Z:List Nat) (k n cy:Nat):List Nat:=Y.take k ++ (Z ++ (cy :: Y.drop (k+n+1)))
theorem CS {Y Z:List Nat}{k n cy:Nat} (h:k+n<Y.length) (hZ:Z.length=n):(patch Y Z k n cy).length=Y.length:=by
 simp [patch,hZ];omega
theorem CK {Y Z:List Nat}{k n cy j:Nat} (h:k+n<Y.length) (hj:j<k):nth (patch Y Z k n cy) j=nth Y j:=by
 rw [patch,LN _ _ (by rw [List.length_take];omega),eu _ hj]
theorem CL {Y Z:List Nat}{k n cy j:Nat} (h:k+n<Y.length) (hZ:Z.length=n) (hj:j<n):nth (patch Y Z k n cy) (k+j)=nth Z j:=by
 have ht:(Y.take k).length=k:=by rw [List.length_take];omega
 rw [patch,gg _ _ (by omega),ht,Nat.add_sub_cancel_left,LN _ _ (by omega)]
theorem CJ {Y Z:List Nat}{k n cy:Nat} (h:k+n<Y.length) (hZ:Z.length=n):nth (patch Y Z k n cy) (k+n)=cy:=by
 have ht:(Y.take k).length=k:=by rw [List.length_take];omega
 rw [patch,gg _ _ (by omega),ht,Nat.add_sub_cancel_left,gg _ _ (by omega),hZ,Nat.sub_self]
 simp [nth]
theorem CM {Y Z:List Nat}{k n cy j:Nat} (h:k+n<Y.length) (hZ:Z.length=n) (hj:k+n<j):nth (patch Y Z k n cy) j=nth Y j:=by
 have ht:(Y.take k).length=k:=by rw [List.length_take];omega
 rw [patch,gg _ _ (by omega),ht,gg _ _ (by omega),hZ]
 obtain ⟨i,rfl⟩:∃i,j=k+n+1+i:=⟨j-(k+n+1),by omega⟩
 rw [show k+n+1+i-k-n=i+1 by omega]
 have:nth (cy :: Y.drop (k+n+1)) (i+1)=nth (Y.drop (k+n+1)) i:=by simp [nth]
 rw [this,Ly]
theorem CR {b:Nat}{Y Z:List Nat}{k n cy:Nat} (aY:All b Y) (aZ:All b Z) (hc:cy<b):All b (patch Y Z k n cy):=
 (aY.take k).app (aZ.app (All.cons hc (aY.drop _)))
theorem Ox {Y Z:List Nat}{k n cy:Nat} (h:k+n<Y.length) (hZ:Z.length=n):(patch Y Z k n cy).drop (k+n+1)=Y.drop (k+n+1):=by
 have ht:(Y.take k).length=k:=by rw [List.length_take];omega
 rw [patch,List.drop_append,ht,List.drop_of_length_le (by omega),List.nil_append,List.drop_append,hZ,List.drop_of_length_le (by omega),List.nil_append]
 rw [show k+n+1-k-n=1 by omega,List.drop_succ_cons,List.drop_zero]
theorem CP {b:Nat}{Y Z:List Nat}{k n cy T:Nat} (h:k+n<Y.length) (hb:0<b) (hz:val b (Y.drop (k+n))=0) (hZ:Z.length=n)
  (hv:val b Z+b ^ n*cy=T+val b ((Y.drop k).take n)):val b (patch Y Z k n cy)=val b Y+b ^ k*T∧val b ((patch Y Z k n cy).drop (k+1+n))=0:=by
 have ht:(Y.take k).length=k:=by rw [List.length_take];omega
 have e0:=fG b Y (k:=k+n) h
 rw [hz] at e0
 have z1:val b (Y.drop (k+n+1))=0:=by
  rcases Nat.eq_zero_or_pos (val b (Y.drop (k+n+1))) with h1 | h1
  ·exact h1
  ·have:=Nat.mul_pos hb h1;omega
 constructor
 ·have e1:=fF b Y (k:=k) (by omega)
  have e2:=fF b (Y.drop k) (k:=n) (by rw [List.length_drop];omega)
  rw [List.drop_drop,hz] at e2
  rw [patch,iV,iV,ht,hZ]
  simp only [val,z1,Nat.mul_zero,Nat.add_zero] at e2 ⊢
  rw [hv,e1,e2,Nat.mul_add]
  omega
 ·rw [show k+1+n=k+n+1 by omega,Ox h hZ,z1]
theorem lP {xs:List Nat}{k:Nat} (t:Nat) (h:k<xs.length):nth (xs.set k t) k=t:=by simp [nth,h]
theorem oc (xs:List Nat){k j:Nat} (t:Nat) (h:j≠k):nth (xs.set k t) j=nth xs j:=by
 simp [nth,List.getElem?_set_ne (show k≠j from fun e=>h e.symm)]
theorem All.set {b t:Nat}{xs:List Nat} (h:All b xs) (ht:t<b) (k:Nat):All b (xs.set k t):=by
 intro y hy
 rcases List.mem_or_eq_of_mem_set hy with h1 | h1
 ·exact h y h1
 ·subst h1;exact ht
theorem lQ {b k:Nat}{xs:List Nat} (t:Nat) (h:k<xs.length):val b ((xs.set k t).drop k)=t+b*val b (xs.drop (k+1)):=by
 rw [fG b _ (by rw [List.length_set];exact h),lP t h,List.drop_set_of_lt (by omega)]
theorem uJ {m n:Nat}:bZ m n<=0 ↔ m<=n:=by
 unfold bZ
 rcases Nat.lt_trichotomy m n with h | h | h
 ·rw [if_pos h];omega
 ·subst h;simp
 ·rw [if_neg (by omega),if_neg (by omega)];omega
theorem uK {m n:Nat} (h:n<=m):0<=bZ m n:=by
 unfold bZ
 rw [if_neg (by omega)]
 split <;> omega
def over (R Z:List Nat) (k:Nat):List Nat:=R.take k ++ (Z ++ R.drop (k+Z.length))
theorem tg {R Z:List Nat}{k:Nat} (h:k+Z.length<=R.length):(over R Z k).length=R.length:=by
 simp [over];omega
theorem NX {b:Nat}{R Z:List Nat} (hR:All b R) (hZ:All b Z) (k:Nat):All b (over R Z k):=(hR.take k).app (hZ.app (hR.drop _))
theorem NT {R Z:List Nat}{k j:Nat} (h:k+Z.length<=R.length) (hj:j<Z.length):nth (over R Z k) (k+j)=nth Z j:=by
 have ht:(R.take k).length=k:=by rw [List.length_take];omega
 rw [over,gg _ _ (by omega),ht,Nat.add_sub_cancel_left,LN _ _ hj]
theorem NU {R Z:List Nat}{k j:Nat} (h:k+Z.length<=R.length) (hj:j<k∨k+Z.length<=j):nth (over R Z k) j=nth R j:=by
 have ht:(R.take k).length=k:=by rw [List.length_take];omega
 rcases hj with hj | hj
 ·rw [over,LN _ _ (by omega),eu _ hj]
 ·rw [over,gg _ _ (by omega),ht,gg _ _ (by omega),Ly]
  congr 1
  omega
theorem NW {b:Nat}{R Z:List Nat}{k:Nat} (h:k+Z.length<=R.length) (hz:val b (R.drop (k+Z.length))=0):val b (over R Z k)=val b (R.take k)+b ^ k*val b Z:=by
 have ht:(R.take k).length=k:=by rw [List.length_take];omega
 rw [over,iV,iV,ht,hz];simp
theorem NV {b:Nat}{R:List Nat}{k n D:Nat} (hb:0<b) (hk:k+n+1<=R.length) (hD:D<b ^ n) (hv:val b R<D*b ^ (k+1)) :
  val b R=val b (R.take k)+b ^ k*val b ((R.drop k).take (n+1))∧val b ((R.drop k).take (n+1))<D*b∧val b (R.drop (k+n+1))=0:=by
 have e1:=fF b R (k:=k) (by omega)
 have hp:0<b ^ k:=Nat.pow_pos hb
 have l1:val b (R.drop k)<D*b:=by
  have h1:b ^ k*val b (R.drop k)<b ^ k*(D*b):=by
   have:D*b ^ (k+1)=b ^ k*(D*b):=by rw [Nat.pow_succ,Nat.mul_left_comm]
   omega
  exact Nat.lt_of_mul_lt_mul_left h1
 have e2:=fF b (R.drop k) (k:=n+1) (by rw [List.length_drop];omega)
 rw [List.drop_drop,show k+(n+1)=k+n+1 by omega] at e2
 have l2:D*b<=b ^ (n+1):=by rw [Nat.pow_succ];exact Nat.mul_le_mul_right b (Nat.le_of_lt hD)
 have z:val b (R.drop (k+n+1))=0:=by
  rcases Nat.eq_zero_or_pos (val b (R.drop (k+n+1))) with h | h
  ·exact h
  ·have:=Nat.mul_le_mul_left (b ^ (n+1)) h
   omega
 rw [z,Nat.mul_zero,Nat.add_zero] at e2
 exact ⟨by rw [<- e2];exact e1,by rw [<- e2];exact l1,z⟩
def aN (n d:Int):Rat:=if d=0 then Rat.divInt n 1 else Rat.divInt n d
theorem gi {n d:Int} (h:d≠0):aN n d=Rat.divInt n d:=by rw [aN,if_neg h]
theorem Fb (n:Int):aN n 1=Rat.divInt n 1:=by rw [aN,if_neg (by omega)]
theorem Oy (q:Rat):aN q.num q.den=q:=by
 rw [gi (by have:=q.den_nz;omega),Rat.num_divInt_den]
def cd (n d:Int):Int:=if d<0 then -(Int.gcd n d:Int) else (Int.gcd n d:Int)
theorem Oz {n d:Int} (hd:d≠0):0<(Int.gcd n d:Int):=by
 have:=Int.gcd_pos_of_ne_zero_right n hd
 omega
theorem gj {n d:Int} (hd:d≠0):cd n d≠0:=by
 have:=Oz (n:=n) hd
 unfold cd;split <;> omega
theorem LO (n d:Int):cd n d∣n:=by
 unfold cd;split
 ·exact Int.neg_dvd.2 (Int.gcd_dvd_left ..)
 ·exact Int.gcd_dvd_left ..
theorem LP (n d:Int):cd n d∣d:=by
 unfold cd;split
 ·exact Int.neg_dvd.2 (Int.gcd_dvd_right ..)
 ·exact Int.gcd_dvd_right ..
theorem uL {n d:Int} (hd:d≠0):n / cd n d=(Rat.divInt n d).num:=by
 rw [Rat.num_divInt,Int.gcd_comm d n]
 unfold cd
 by_cases h:d<0
 ·rw [if_pos h,Int.sign_eq_neg_one_of_neg h,Int.ediv_neg,<- Int.neg_ediv_of_dvd (Int.gcd_dvd_left ..)]
  congr 1;omega
 ·rw [if_neg h,Int.sign_eq_one_of_pos (by omega),Int.one_mul]
theorem uM {n d:Int} (hd:d≠0):d / cd n d=((Rat.divInt n d).den:Int):=by
 rw [Rat.den_divInt,if_neg hd,Int.gcd_comm d n]
 unfold cd
 rw [Int.natCast_ediv]
 by_cases h:d<0
 ·rw [if_pos h,Int.ediv_neg,<- Int.neg_ediv_of_dvd (Int.gcd_dvd_right ..)]
  congr 1;omega
 ·rw [if_neg h];congr 1;omega
end Go.Proofs.Ytomamliepbhegaa
