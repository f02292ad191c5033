/- Plain facts on numbers as rows of digits to a base, the lowest first: no program is spoken of here. -/
import GoSem.Claim
namespace Go.Proofs.YtbokonbbokhjlaaGreat
def nth (xs:List Nat) (j:Nat):Nat:=xs.getD j 0
theorem mJ (xs:List Nat){j:Nat} (h:j<xs.length):xs[j]=nth xs j:=by simp [nth,h]
theorem FN (xs:List Nat){j:Nat} (h:j<xs.length):xs[j]?=some (nth xs j):=by simp [nth,h]
theorem ef (xs:List Nat){j:Nat} (h:xs.length<=j):nth xs j=0:=by simp [nth,h]
theorem RV (xs:List Nat){j:Nat} (h:j<xs.length):nth xs j ∈ xs:=by rw [<- mJ xs h];exact List.getElem_mem h
theorem nY (xs ys:List Nat){j:Nat} (h:j<xs.length):nth (xs ++ ys) j=nth xs j:=by simp [nth,List.getElem?_append,h]
theorem kA (xs ys:List Nat){j:Nat} (h:xs.length<=j):nth (xs ++ ys) j=nth ys (j-xs.length):=by
 simp [nth,List.getElem?_append_right h]
theorem L8 (xs:List Nat) (y:Nat):nth (xs ++ [y]) xs.length=y:=by simp [nth]
theorem fa (xs:List Nat){k j:Nat} (h:j<k):nth (xs.take k) j=nth xs j:=by simp [nth,h]
theorem iW (xs:List Nat) (k j:Nat):nth (xs.drop k) j=nth xs (k+j):=by simp [nth,List.getElem?_drop]
theorem Da (xs:List Nat){k:Nat} (h:k<xs.length):xs.take (k+1)=xs.take k ++ [nth xs k]:=by
 rw [List.take_add_one,List.getElem?_eq_getElem h,mJ xs h];rfl
theorem nP (xs:List Nat){k:Nat} (h:k<xs.length):xs.drop k=nth xs k :: xs.drop (k+1):=by
 rw [List.drop_eq_getElem_cons h,mJ xs h]
theorem t6 {xs ys:List Nat} (hl:xs.length=ys.length) (h:∀j,j<xs.length->nth xs j=nth ys j):xs=ys:=by
 apply List.ext_getElem hl
 intro j h1 h2
 rw [mJ xs h1,mJ ys h2,h j h1]
def All (b:Nat) (xs:List Nat):Prop:=∀x,x ∈ xs->x<b
theorem All.nth {b:Nat}{xs:List Nat} (h:All b xs){j:Nat} (hj:j<xs.length):nth xs j<b:=h _ (RV xs hj)
theorem All.of {b:Nat}{xs:List Nat} (h:∀j,j<xs.length->Go.Proofs.YtbokonbbokhjlaaGreat.nth xs j<b):All b xs:=by
 intro x hx
 obtain ⟨j,hj,rfl⟩:=List.getElem_of_mem hx
 rw [mJ xs hj];exact h j hj
theorem All.nil (b:Nat):All b []:=fun _ h=>by cases h
theorem All.cons {b x:Nat}{xs:List Nat} (hx:x<b) (h:All b xs):All b (x :: xs):=by
 intro y hy
 rcases List.mem_cons.1 hy with rfl | hy
 ·exact hx
 ·exact h y hy
theorem All.head {b x:Nat}{xs:List Nat} (h:All b (x :: xs)):x<b:=h x (by simp)
theorem All.tail {b x:Nat}{xs:List Nat} (h:All b (x :: xs)):All b xs:=fun y hy=>h y (by simp [hy])
theorem All.app {b:Nat}{xs ys:List Nat} (h:All b xs) (k:All b ys):All b (xs ++ ys):=by
 intro y hy
 rcases List.mem_append.1 hy with hy | hy
 ·exact h y hy
 ·exact k y hy
theorem All.take {b:Nat}{xs:List Nat} (h:All b xs) (k:Nat):All b (xs.take k):=fun y hy=>h y (List.mem_of_mem_take hy)
theorem All.drop {b:Nat}{xs:List Nat} (h:All b xs) (k:Nat):All b (xs.drop k):=fun y hy=>h y (List.mem_of_mem_drop hy)
theorem All.mono {b c:Nat}{xs:List Nat} (h:All b xs) (hc:b<=c):All c xs:=fun y hy=>Nat.lt_of_lt_of_le (h y hy) hc
theorem All.mz {b x:Nat} (h:x<b) (n:Nat):All b (List.replicate n x):=fun y hy=>by rw [(List.mem_replicate.1 hy).2];exact h
def val (b:Nat):List Nat->Nat
 | []=>0
 | x :: xs=>x+b*val b xs
theorem mK (b:Nat) (xs ys:List Nat):val b (xs ++ ys)=val b xs+b ^ xs.length*val b ys:=by
 induction xs with
 | nil=>simp [val]
 | cons x xs ih=>simp only [List.cons_append,val,ih,List.length_cons,Nat.pow_succ,Nat.mul_add];rw [Nat.mul_comm (b ^ xs.length) b,Nat.mul_assoc];omega
theorem my (b:Nat) (xs:List Nat) (y:Nat):val b (xs ++ [y])=val b xs+b ^ xs.length*y:=by rw [mK];simp [val]
theorem li (b:Nat) (xs:List Nat){k:Nat} (h:k<xs.length):val b (xs.take (k+1))=val b (xs.take k)+b ^ k*nth xs k:=by
 rw [Da xs h,my,List.length_take,Nat.min_eq_left (by omega)]
theorem fU (b:Nat) (xs:List Nat){k:Nat} (h:k<=xs.length):val b xs=val b (xs.take k)+b ^ k*val b (xs.drop k):=by
 have e:=mK b (xs.take k) (xs.drop k)
 rw [List.take_append_drop,List.length_take,Nat.min_eq_left h] at e
 exact e
theorem fg (b:Nat) (xs:List Nat){k:Nat} (h:k<xs.length):val b (xs.drop k)=nth xs k+b*val b (xs.drop (k+1)):=by
 rw [nP xs h];rfl
theorem lh (b n:Nat):val b (List.replicate n 0)=0:=by
 induction n with
 | zero=>rfl
 | succ n ih=>simp [List.replicate_succ,val,ih]
theorem ep {b:Nat}{xs:List Nat} (h:All b xs):val b xs<b ^ xs.length:=by
 induction xs with
 | nil=>simp [val]
 | cons x xs ih=>
  have h1:=h.head
  have h2:=ih h.tail
  simp only [val,List.length_cons,Nat.pow_succ]
  have h3:b*(val b xs+1)<=b*b ^ xs.length:=Nat.mul_le_mul_left b h2
  rw [Nat.mul_comm (b ^ xs.length) b]
  rw [Nat.mul_add] at h3
  omega
def jn (b:Nat):Nat->Nat->List Nat
 | 0,_=>[]
 | f+1,n=>if n=0 then [] else n % b :: jn b f (n / b)
def aj (b n:Nat):List Nat:=jn b n n
theorem RW {b:Nat} (hb:2<=b):∀f g n:Nat,n<=f->n<=g->jn b f n=jn b g n:=by
 intro f
 induction f with
 | zero=>
  intro g n h1 h2
  obtain rfl:n=0:=by omega
  cases g <;> simp [jn]
 | succ f ih=>
  intro g n h1 h2
  by_cases h0:n=0
  ·subst h0
   cases g <;> simp [jn]
  ·cases g with
   | zero=>omega
   | succ g=>
    have hd:n / b<n:=Nat.div_lt_self (by omega) (by omega)
    simp only [jn,if_neg h0]
    rw [ih g (n / b) (by omega) (by omega)]
theorem iX (b:Nat):aj b 0 = []:=rfl
theorem ip {b n:Nat} (hb:2<=b) (h:0<n):aj b n=n % b :: aj b (n / b):=by
 cases n with
 | zero=>omega
 | succ n=>
  have hd:(n+1) / b<n+1:=Nat.div_lt_self (by omega) (by omega)
  simp only [aj,jn,if_neg (Nat.succ_ne_zero n)]
  rw [RW hb n ((n+1) / b) ((n+1) / b) (by omega) (by omega)]
theorem vj {b:Nat} (hb:2<=b){P:Nat->Prop} (h0:P 0) (h:∀n,0<n->P (n / b)->P n):∀n,P n:=by
 have aux:∀m n,n<=m->P n:=by
  intro m
  induction m with
  | zero=>intro n hn;obtain rfl:n=0:=(by omega);exact h0
  | succ m ih=>
   intro n hn
   by_cases hz:n=0
   ·subst hz;exact h0
   ·have hd:n / b<n:=Nat.div_lt_self (by omega) (by omega)
    exact h n (by omega) (ih _ (by omega))
 exact fun n=>aux n n (Nat.le_refl n)
theorem cK {b:Nat} (hb:2<=b):∀n,val b (aj b n)=n:=by
 refine vj hb rfl ?_
 intro n hn ih
 rw [ip hb hn,val,ih]
 exact Nat.mod_add_div n b
theorem et {b:Nat} (hb:2<=b):∀n,All b (aj b n):=by
 refine vj hb (All.nil b) ?_
 intro n hn ih
 rw [ip hb hn]
 exact All.cons (Nat.mod_lt _ (by omega)) ih
def il (xs:List Nat):Prop:=xs = []∨nth xs (xs.length-1)≠0
theorem il.tail {x:Nat}{xs:List Nat} (h:il (x :: xs)):il xs:=by
 cases xs with
 | nil=>exact .inl rfl
 | cons y ys=>
  refine .inr ?_
  rcases h with h | h
  ·cases h
  ·simpa [nth] using h
theorem AN {b:Nat} (hb:0<b){xs:List Nat} (h:il xs) (hne:xs ≠ []):0<val b xs:=by
 induction xs with
 | nil=>exact absurd rfl hne
 | cons x xs ih=>
  cases xs with
  | nil=>
   rcases h with h | h
   ·cases h
   ·simp [nth] at h;simp [val];omega
  | cons y ys=>
   have h1:=ih h.tail (by simp)
   simp only [val] at h1 ⊢
   have h2:0<b*(y+b*val b ys):=Nat.mul_pos hb h1
   omega
theorem qh {b:Nat} (hb:2<=b):∀n,il (aj b n):=by
 refine vj hb (.inl rfl) ?_
 intro n hn ih
 rw [ip hb hn]
 refine .inr ?_
 by_cases hq:n / b=0
 ·rw [hq,iX]
  have:n % b=n:=Nat.mod_eq_of_lt (by
   rcases Nat.lt_or_ge n b with h | h
   ·exact h
   ·have:=Nat.div_pos h (by omega:0<b);omega)
  simp [nth,this];omega
 ·rw [ip hb (Nat.pos_of_ne_zero hq)] at ih ⊢
  rcases ih with h | h
  ·cases h
  ·simpa [nth] using h
theorem tQ {b:Nat} (hb:2<=b){xs:List Nat} (ha:All b xs) (ht:il xs):aj b (val b xs)=xs:=by
 induction xs with
 | nil=>rfl
 | cons x xs ih=>
  have hp:=AN (b:=b) (by omega) ht (by simp)
  rw [ip hb hp]
  have hx:=ha.head
  have e1:val b (x :: xs) % b=x:=by simp only [val];rw [Nat.add_mul_mod_self_left,Nat.mod_eq_of_lt hx]
  have e2:val b (x :: xs) / b=val b xs:=by simp only [val];rw [Nat.add_mul_div_left _ _ (by omega),Nat.div_eq_of_lt hx];omega
  rw [e1,e2,ih ha.tail ht.tail]
def dX (xs:List Nat):Nat->Nat
 | 0=>0
 | k+1=>if nth xs k=0 then dX xs k else k+1
theorem fJ (xs:List Nat) (k:Nat):dX xs k<=k:=by
 induction k with
 | zero=>exact Nat.le_refl _
 | succ k ih=>unfold dX;split <;> omega
theorem RX (xs:List Nat) (k:Nat):dX xs k=0∨nth xs (dX xs k-1)≠0:=by
 induction k with
 | zero=>exact .inl rfl
 | succ k ih=>
  unfold dX
  split
  ·exact ih
  ·exact .inr (by simpa)
theorem Db (b:Nat) (xs:List Nat) (k:Nat) (h:k<=xs.length):val b (xs.take (dX xs k))=val b (xs.take k):=by
 induction k with
 | zero=>rfl
 | succ k ih=>
  unfold dX
  split
  ·rename_i h0
   rw [ih (by omega),li b xs (by omega),h0];simp
  ·rfl
def trim (xs:List Nat):List Nat:=xs.take (dX xs xs.length)
theorem dY (xs:List Nat):(trim xs).length=dX xs xs.length:=by
 rw [trim,List.length_take,Nat.min_eq_left (fJ _ _)]
theorem dr {b:Nat} (hb:2<=b){xs:List Nat} (h:All b xs):trim xs=aj b (val b xs):=by
 have e:val b (trim xs)=val b xs:=by
  have:=Db b xs xs.length (Nat.le_refl _)
  rwa [List.take_length] at this
 have t:il (trim xs):=by
  rcases RX xs xs.length with h0 | h0
  ·exact .inl (by rw [trim,h0];rfl)
  ·by_cases hz:dX xs xs.length=0
   ·exact .inl (by rw [trim,hz];rfl)
   ·refine .inr ?_
    rw [dY,trim,fa _ (by omega)]
    exact h0
 have k:=tQ hb (h.take (dX xs xs.length)) (show il (xs.take (dX xs xs.length)) from t)
 rw [<- e]
 exact k.symm
theorem gN {b:Nat} (hb:2<=b) (k:Nat):∀n,n<b ^ k->(aj b n).length<=k:=by
 induction k with
 | zero=>intro n h;obtain rfl:n=0:=(by simpa using h);simp [iX]
 | succ k ih=>
  intro n h
  by_cases h0:n=0
  ·subst h0;simp [iX]
  ·rw [ip hb (by omega),List.length_cons]
   have:=ih (n / b) (by rw [Nat.div_lt_iff_lt_mul (by omega)];rwa [Nat.pow_succ] at h)
   omega
theorem iT {b:Nat} (hb:2<=b) (n:Nat):n<b ^ (aj b n).length:=by
 have:=ep (et hb n)
 rwa [cK hb] at this
theorem Dc {b:Nat} (hb:2<=b){n k:Nat} (h:k<(aj b n).length):b ^ k<=n:=by
 rcases Nat.lt_or_ge n (b ^ k) with h1 | h1
 ·have:=gN hb k n h1;omega
 ·exact h1
theorem mw {b:Nat} (hb:2<=b){m n:Nat} (h:(aj b m).length<(aj b n).length):m<n:=
 Nat.lt_of_lt_of_le (iT hb m) (Dc hb h)
theorem vk {b:Nat} (hb:2<=b){n:Nat}:aj b n = [] ↔ n=0:=by
 constructor
 ·intro h;rw [<- cK hb n,h];rfl
 ·rintro rfl;rfl
theorem fb {b:Nat} (hb:2<=b){n:Nat}:(aj b n).length=0 ↔ n=0:=by
 rw [List.length_eq_zero_iff,vk hb]
theorem Dd {b:Nat} (hb:2<=b) (k:Nat):∀n,nth (aj b n) k=n / b ^ k % b:=by
 induction k with
 | zero=>
  intro n
  by_cases h0:n=0
  ·subst h0;simp [iX,nth]
  ·rw [ip hb (by omega)];simp [nth]
 | succ k ih=>
  intro n
  by_cases h0:n=0
  ·subst h0;simp [iX,nth]
  ·rw [ip hb (by omega)]
   have:nth (n % b :: aj b (n / b)) (k+1)=nth (aj b (n / b)) k:=by simp [nth]
   rw [this,ih,Nat.div_div_eq_div_mul,Nat.pow_succ,Nat.mul_comm b]
theorem vm {b n:Nat} (hb:2<=b) (h0:0<n) (h:n<b):aj b n = [n]:=by
 rw [ip hb h0,Nat.mod_eq_of_lt h,Nat.div_eq_of_lt h,iX]
def cF (m n:Nat):Int:=if m<n then -1 else if m=n then 0 else 1
theorem ke {m n:Nat} (h:m<n):cF m n = -1:=by simp [cF,h]
theorem tO (n:Nat):cF n n=0:=by simp [cF]
theorem qt {m n:Nat} (h:n<m):cF m n=1:=by
 unfold cF
 rw [if_neg (by omega),if_neg (by omega)]
theorem fX {b:Nat} (xs:List Nat):val b (trim xs)=val b xs:=by
 have:=Db b xs xs.length (Nat.le_refl _)
 rwa [List.take_length] at this
theorem qr {b:Nat}{a c:List Nat}{k:Nat} (hk:k<a.length) (hk':k<c.length) (hd:a.drop (k+1)=c.drop (k+1)) (ha:All b a)
  (h:nth a k<nth c k):val b a<val b c:=by
 have e1:=fU b a (k:=k) (by omega)
 have e2:=fU b c (k:=k) (by omega)
 rw [fg b a hk,hd] at e1
 rw [fg b c hk'] at e2
 have l1:=ep (ha.take k)
 rw [List.length_take,Nat.min_eq_left (by omega)] at l1
 have m1:b ^ k*(nth a k+1)<=b ^ k*nth c k:=Nat.mul_le_mul_left _ h
 rw [Nat.mul_add] at m1 e1 e2
 omega
def pre (f:Nat->Nat) (k:Nat):List Nat:=(List.range k).map f
theorem c7 (f:Nat->Nat) (k:Nat):(pre f k).length=k:=by simp [pre]
theorem eS (f:Nat->Nat){k j:Nat} (h:j<k):nth (pre f k) j=f j:=by simp [nth,pre,h]
theorem vn (f:Nat->Nat) (k:Nat):pre f (k+1)=pre f k ++ [f k]:=by simp [pre,List.range_succ]
theorem er (b:Nat) (f:Nat->Nat) (k:Nat):val b (pre f (k+1))=val b (pre f k)+b ^ k*f k:=by rw [vn,my,c7]
theorem fG {b:Nat}{f:Nat->Nat}{k:Nat} (h:∀j,j<k->f j<b):All b (pre f k):=by
 refine All.of fun j hj=>?_
 rw [c7] at hj
 rw [eS f hj]
 exact h j hj
theorem JH {f g:Nat->Nat}{k:Nat} (h:∀j,j<k->f j=g j):pre f k=pre g k:=by
 refine t6 (by rw [c7,c7]) fun j hj=>?_
 rw [c7] at hj
 rw [eS f hj,eS g hj,h j hj]
theorem tv (xs:List Nat){k:Nat} (h:k<=xs.length):pre (nth xs) k=xs.take k:=by
 refine t6 (by rw [c7,List.length_take,Nat.min_eq_left h]) fun j hj=>?_
 rw [c7] at hj
 rw [eS _ hj,fa _ hj]
theorem zy (xs:List Nat):pre (nth xs) xs.length=xs:=by rw [tv xs (Nat.le_refl _),List.take_length]
theorem eg (b:Nat) (xs:List Nat){k:Nat} (h:xs.length<=k):val b (pre (nth xs) k)=val b xs:=by
 obtain ⟨d,rfl⟩:∃d,k=xs.length+d:=⟨k-xs.length,by omega⟩
 induction d with
 | zero=>rw [Nat.add_zero,zy]
 | succ d ih=>rw [<- Nat.add_assoc,er,ih (by omega),ef xs (by omega)];simp
def bw (b:Nat) (f g:Nat->Nat):Nat->Nat
 | 0=>0
 | k+1=>(bw b f g k+(f k+g k)) / b
def du (b:Nat) (f g:Nat->Nat) (k:Nat):Nat:=(bw b f g k+(f k+g k)) % b
theorem tP {b:Nat}{f g:Nat->Nat} (hf:∀j,f j<b) (hg:∀j,g j<b) (k:Nat):bw b f g k<=1:=by
 induction k with
 | zero=>simp [bw]
 | succ k ih=>
  have h1:=hf k
  have h2:=hg k
  have h3:bw b f g k+(f k+g k)<b*2:=by omega
  have h4:=Nat.div_lt_of_lt_mul h3
  simp only [bw]
  omega
theorem qw {b:Nat} (hb:0<b) (f g:Nat->Nat) (k:Nat):du b f g k<b:=Nat.mod_lt _ hb
theorem nQ (b:Nat) (f g:Nat->Nat) (k:Nat):val b (pre (du b f g) k)+b ^ k*bw b f g k=val b (pre f k)+val b (pre g k):=by
 induction k with
 | zero=>simp [pre,val,bw]
 | succ k ih=>
  rw [er,er,er]
  have e:b ^ (k+1)*bw b f g (k+1)+b ^ k*du b f g k=b ^ k*(bw b f g k+(f k+g k)):=by
   simp only [bw,du]
   rw [Nat.pow_succ,Nat.mul_assoc,<- Nat.mul_add,Nat.div_add_mod]
  rw [Nat.mul_add,Nat.mul_add] at e
  omega
theorem bn {b:Nat} (hb:0<b){xs:List Nat} (h:All b xs) (j:Nat):nth xs j<b:=by
 by_cases hj:j<xs.length
 ·exact h.nth hj
 ·rw [ef xs (by omega)];exact hb
def fi (f:Nat->Nat):Nat->Nat
 | 0=>0
 | k+1=>max (fi f k) (f k)
def iU (f:Nat->Nat):Nat->Nat
 | 0=>0
 | k+1=>iU f k+f k
theorem KZ (f:Nat->Nat){j k:Nat} (h:j<k):f j<=fi f k:=by
 induction k with
 | zero=>omega
 | succ k ih=>
  simp only [fi]
  by_cases e:j=k
  ·subst e;exact Nat.le_max_right _ _
  ·exact Nat.le_trans (ih (by omega)) (Nat.le_max_left _ _)
theorem KU (f:Nat->Nat){k m:Nat} (h:∀j,j<k->f j<=m):fi f k<=m:=by
 induction k with
 | zero=>exact Nat.zero_le _
 | succ k ih=>exact Nat.max_le.2 ⟨ih fun j hj=>h j (by omega),h k (by omega)⟩
theorem KX (f:Nat->Nat) (k:Nat) (h:fi f k≠0):∃j,j<k∧fi f k=f j:=by
 induction k with
 | zero=>exact absurd rfl h
 | succ k ih=>
  simp only [fi] at h ⊢
  rcases Nat.le_total (fi f k) (f k) with h1 | h1
  ·exact ⟨k,by omega,Nat.max_eq_right h1⟩
  ·rw [Nat.max_eq_left h1] at h ⊢
   obtain ⟨j,hj,e⟩:=ih h
   exact ⟨j,by omega,e⟩
theorem KY (f:Nat->Nat){j k:Nat} (h:j<k):f j<=iU f k:=by
 induction k with
 | zero=>omega
 | succ k ih=>
  simp only [iU]
  by_cases e:j=k
  ·subst e;omega
  ·have:=ih (by omega);omega
theorem Ag {b:Nat}{xs:List Nat} (ha:All b xs) (hv:xs = []∨b ^ (xs.length-1)<=val b xs):il xs:=by
 by_cases hn:xs = []
 ·exact .inl hn
 ·refine .inr fun h0=>?_
  rcases hv with hv | hv
  ·exact hn hv
  have hl:0<xs.length:=List.length_pos_iff.2 hn
  have e:=fU b xs (k:=xs.length-1) (by omega)
  rw [fg b xs (by omega),h0,show xs.length-1+1=xs.length by omega,List.drop_length] at e
  have l:=ep (ha.take (xs.length-1))
  rw [List.length_take,Nat.min_eq_left (by omega)] at l
  simp only [val,Nat.mul_zero,Nat.add_zero] at e
  omega
theorem QC {b:Nat} (hb:2<=b){n:Nat} (h:(aj b n).length≠0):b ^ ((aj b n).length-1)<=n:=Dc hb (by omega)
def aX (f g:Nat->Nat):Nat->Nat
 | 0=>0
 | k+1=>if f k<g k+aX f g k then 1 else 0
def fx (b:Nat) (f g:Nat->Nat) (k:Nat):Nat:=(f k+b*aX f g (k+1))-(g k+aX f g k)
theorem nV (f g:Nat->Nat) (k:Nat):aX f g k<=1:=by
 cases k with
 | zero=>simp [aX]
 | succ k=>simp only [aX];split <;> omega
theorem qz {b:Nat}{f g:Nat->Nat} (hg:∀j,g j<b) (k:Nat):fx b f g k+(g k+aX f g k)=f k+b*aX f g (k+1):=by
 have h1:=nV f g k
 have h2:=hg k
 simp only [fx,aX]
 split
 ·rw [Nat.mul_one];omega
 ·rw [Nat.mul_zero];omega
theorem tV {b:Nat}{f g:Nat->Nat} (hf:∀j,f j<b) (k:Nat):fx b f g k<b:=by
 have h2:=hf k
 simp only [fx,aX]
 split
 ·rw [Nat.mul_one];omega
 ·rw [Nat.mul_zero];omega
theorem De {b:Nat}{f g:Nat->Nat} (hg:∀j,g j<b) (k:Nat):val b (pre (fx b f g) k)+val b (pre g k)=val b (pre f k)+b ^ k*aX f g k:=by
 induction k with
 | zero=>simp [pre,val,aX]
 | succ k ih=>
  rw [er,er,er]
  have e:=congrArg (fun x=>b ^ k*x) (qz hg k:fx b f g k+(g k+aX f g k)=f k+b*aX f g (k+1))
  simp only [Nat.mul_add] at e
  rw [Nat.pow_succ,Nat.mul_assoc]
  omega
theorem Ak {b:Nat}{xs ys:List Nat} (ax:All b xs) (ay:All b ys) (h0:0<b) (hl:ys.length<=xs.length) (h:val b ys<=val b xs):aX (nth xs) (nth ys) xs.length=0:=by
 have e:=De (f:=nth xs) (bn h0 ay) xs.length
 rw [eg _ xs (Nat.le_refl _),eg _ ys hl] at e
 have l:=ep (fG (k:=xs.length) (fun j _=>tV (g:=nth ys) (bn h0 ax) j))
 rw [c7] at l
 have c:=nV (nth xs) (nth ys) xs.length
 by_cases hc:aX (nth xs) (nth ys) xs.length=0
 ·exact hc
 ·rw [show aX (nth xs) (nth ys) xs.length=1 by omega] at e
  omega
theorem Am {b:Nat}{xs ys:List Nat} (ax:All b xs) (ay:All b ys) (h0:0<b) (hl:ys.length<=xs.length) (h:val b ys<=val b xs) :
  val b (pre (fx b (nth xs) (nth ys)) xs.length)=val b xs-val b ys:=by
 have e:=De (f:=nth xs) (bn h0 ay) xs.length
 rw [eg _ xs (Nat.le_refl _),eg _ ys hl,Ak ax ay h0 hl h] at e
 omega
theorem Dg {xs ys:List Nat}{k:Nat} (h:aX (nth xs) (nth ys) k=0) (hk:ys.length<=k) (j:Nat):aX (nth xs) (nth ys) (k+j)=0:=by
 induction j with
 | zero=>exact h
 | succ j ih=>
  rw [<- Nat.add_assoc]
  simp only [aX]
  rw [ih,ef ys (by omega)]
  simp
theorem K9 {b:Nat}{xs ys:List Nat}{k:Nat} (h:aX (nth xs) (nth ys) k=0) (hk:ys.length<=k){j:Nat} (hj:k<=j):fx b (nth xs) (nth ys) j=nth xs j:=by
 obtain ⟨d,rfl⟩:∃d,j=k+d:=⟨j-k,by omega⟩
 simp only [fx]
 rw [Dg h hk d,Nat.add_assoc,Dg h hk (d+1),ef ys (by omega)]
 simp
def chC (b:Nat) (s:Nat->Nat) (c0:Nat):Nat->Nat
 | 0=>c0
 | k+1=>(chC b s c0 k+s k) / b
def gx (b:Nat) (s:Nat->Nat) (c0 k:Nat):Nat:=(chC b s c0 k+s k) % b
theorem tZ (b:Nat) (s:Nat->Nat) (c0 k:Nat):val b (pre (gx b s c0) k)+b ^ k*chC b s c0 k=c0+val b (pre s k):=by
 induction k with
 | zero=>simp [pre,val,chC]
 | succ k ih=>
  rw [er,er]
  have e:b ^ (k+1)*chC b s c0 (k+1)+b ^ k*gx b s c0 k=b ^ k*(chC b s c0 k+s k):=by
   simp only [chC,gx]
   rw [Nat.pow_succ,Nat.mul_assoc,<- Nat.mul_add,Nat.div_add_mod]
  rw [Nat.mul_add] at e
  omega
theorem tY {b:Nat} (hb:0<b) (s:Nat->Nat) (c0 k:Nat):gx b s c0 k<b:=Nat.mod_lt _ hb
theorem val_mul (b m:Nat) (f:Nat->Nat) (k:Nat):val b (pre (fun j=>f j*m) k)=val b (pre f k)*m:=by
 induction k with
 | zero=>simp [pre,val]
 | succ k ih=>rw [er,er,ih,Nat.add_mul,Nat.mul_assoc]
theorem val_add (b:Nat) (f g:Nat->Nat) (k:Nat):val b (pre (fun j=>f j+g j) k)=val b (pre f k)+val b (pre g k):=by
 induction k with
 | zero=>simp [pre,val]
 | succ k ih=>rw [er,er,er,ih,Nat.mul_add];omega
theorem tW {b m:Nat}{s:Nat->Nat}{c0:Nat} (hs:∀j,s j+m<=b*m) (h0:c0<m) (k:Nat):chC b s c0 k<m:=by
 induction k with
 | zero=>exact h0
 | succ k ih=>
  simp only [chC]
  have:=hs k
  exact Nat.div_lt_of_lt_mul (by omega)
theorem Lh {x b m:Nat} (h:x<b):x*m+m<=b*m:=by
 have:=Nat.mul_le_mul_right m (show x+1<=b from h)
 rw [Nat.add_mul,Nat.one_mul] at this
 exact this
theorem Lk {b d:Nat} (hb:2<=b) (hd:0<d) (hdb:b % d=0) (xs:List Nat){i:Nat} (hi:i<xs.length) :
  (nth xs (i+1)*b+nth xs i) / d % b=nth (aj b (val b xs / d)) i∨¬All b xs:=by
 by_cases ha:All b xs
 ·refine .inl ?_
  rw [Dd hb,Nat.div_div_eq_div_mul,Nat.mul_comm d,<- Nat.div_div_eq_div_mul]
  have e1:val b xs / b ^ i=val b (xs.drop i):=by
   rw [fU b xs (k:=i) (by omega)]
   have l:=ep (ha.take i)
   rw [List.length_take,Nat.min_eq_left (by omega)] at l
   rw [Nat.add_mul_div_left _ _ (Nat.pow_pos (by omega)),Nat.div_eq_of_lt l,Nat.zero_add]
  rw [e1,fg b xs hi]
  obtain ⟨q,hq⟩:∃q,b=d*q:=⟨b / d,(Nat.mul_div_cancel' (Nat.dvd_of_mod_eq_zero hdb)).symm⟩
  have e2:val b (xs.drop (i+1))=nth xs (i+1)+b*val b (xs.drop (i+2)):=by
   by_cases h:i+1<xs.length
   ·exact fg b xs h
   ·rw [List.drop_of_length_le (by omega),List.drop_of_length_le (by omega),ef xs (by omega)];rfl
  rw [e2]
  generalize val b (xs.drop (i+2))=R
  generalize nth xs (i+1)=y
  generalize nth xs i=x
  have e3:x+b*(y+b*R)=(y*b+x)+d*(b*(q*R)):=by
   have:b*(b*R)=d*(b*(q*R)):=by
    calc b*(b*R)=b*((d*q)*R):=by rw [<- hq]
     _=d*(b*(q*R)):=by rw [Nat.mul_assoc,Nat.mul_left_comm]
   rw [Nat.mul_add,this,Nat.mul_comm b y]
   omega
  rw [e3,Nat.add_mul_div_left _ _ hd,Nat.add_mul_mod_self_left]
 ·exact .inr ha
theorem Lm {b n k:Nat} (hb:2<=b) (h1:b ^ k<=n) (h2:n<b ^ (k+1)):(aj b n).length=k+1:=by
 have h3:=gN hb (k+1) n h2
 rcases Nat.lt_or_ge k (aj b n).length with h | h
 ·omega
 ·have:=iT hb n
  have h4:b ^ (aj b n).length<=b ^ k:=Nat.pow_le_pow_right (by omega) h
  omega
theorem Jy {b:Nat}{xs:List Nat} (ha:All b xs){k:Nat} (hk:k<=xs.length):val b (xs.drop k)=val b xs / b ^ k:=by
 rw [fU b xs hk]
 have l:=ep (ha.take k)
 rw [List.length_take,Nat.min_eq_left hk] at l
 rw [Nat.add_mul_div_left _ _ (by omega),Nat.div_eq_of_lt l,Nat.zero_add]
def patch (Y Z:List Nat) (k n cy:Nat):List Nat:=Y.take k ++ (Z ++ (cy :: Y.drop (k+n+1)))
theorem LD {Y Z:List Nat}{k n cy:Nat} (h:k+n<Y.length) (hZ:Z.length=n):(patch Y Z k n cy).length=Y.length:=by
 simp [patch,hZ];omega
theorem Ls {Y Z:List Nat}{k n cy j:Nat} (h:k+n<Y.length) (hj:j<k):nth (patch Y Z k n cy) j=nth Y j:=by
 rw [patch,nY _ _ (by rw [List.length_take];omega),fa _ hj]
theorem Lt {Y Z:List Nat}{k n cy j:Nat} (h:k+n<Y.length) (hZ:Z.length=n) (hj:j<n):nth (patch Y Z k n cy) (k+j)=nth Z j:=by
 have ht:(Y.take k).length=k:=by rw [List.length_take];omega
 rw [patch,kA _ _ (by omega),ht,Nat.add_sub_cancel_left,nY _ _ (by omega)]
theorem Lr {Y Z:List Nat}{k n cy:Nat} (h:k+n<Y.length) (hZ:Z.length=n):nth (patch Y Z k n cy) (k+n)=cy:=by
 have ht:(Y.take k).length=k:=by rw [List.length_take];omega
 rw [patch,kA _ _ (by omega),ht,Nat.add_sub_cancel_left,kA _ _ (by omega),hZ,Nat.sub_self]
 simp [nth]
theorem Lu {Y Z:List Nat}{k n cy j:Nat} (h:k+n<Y.length) (hZ:Z.length=n) (hj:k+n<j):nth (patch Y Z k n cy) j=nth Y j:=by
 have ht:(Y.take k).length=k:=by rw [List.length_take];omega
 rw [patch,kA _ _ (by omega),ht,kA _ _ (by omega),hZ]
 obtain ⟨i,rfl⟩:∃i,j=k+n+1+i:=⟨j-(k+n+1),by omega⟩
 rw [show k+n+1+i-k-n=i+1 by omega]
 have:nth (cy :: Y.drop (k+n+1)) (i+1)=nth (Y.drop (k+n+1)) i:=by simp [nth]
 rw [this,iW]
theorem LB {b:Nat}{Y Z:List Nat}{k n cy:Nat} (aY:All b Y) (aZ:All b Z) (hc:cy<b):All b (patch Y Z k n cy):=
 (aY.take k).app (aZ.app (All.cons hc (aY.drop _)))
theorem RY {Y Z:List Nat}{k n cy:Nat} (h:k+n<Y.length) (hZ:Z.length=n):(patch Y Z k n cy).drop (k+n+1)=Y.drop (k+n+1):=by
 have ht:(Y.take k).length=k:=by rw [List.length_take];omega
 rw [patch,List.drop_append,ht,List.drop_of_length_le (by omega),List.nil_append,List.drop_append,hZ,List.drop_of_length_le (by omega),List.nil_append]
 rw [show k+n+1-k-n=1 by omega,List.drop_succ_cons,List.drop_zero]
theorem Ly {b:Nat}{Y Z:List Nat}{k n cy T:Nat} (h:k+n<Y.length) (hb:0<b) (hz:val b (Y.drop (k+n))=0) (hZ:Z.length=n)
  (hv:val b Z+b ^ n*cy=T+val b ((Y.drop k).take n)):val b (patch Y Z k n cy)=val b Y+b ^ k*T∧val b ((patch Y Z k n cy).drop (k+1+n))=0:=by
 have ht:(Y.take k).length=k:=by rw [List.length_take];omega
 have e0:=fg b Y (k:=k+n) h
 rw [hz] at e0
 have z1:val b (Y.drop (k+n+1))=0:=by
  rcases Nat.eq_zero_or_pos (val b (Y.drop (k+n+1))) with h1 | h1
  ·exact h1
  ·have:=Nat.mul_pos hb h1;omega
 constructor
 ·have e1:=fU b Y (k:=k) (by omega)
  have e2:=fU b (Y.drop k) (k:=n) (by rw [List.length_drop];omega)
  rw [List.drop_drop,hz] at e2
  rw [patch,mK,mK,ht,hZ]
  simp only [val,z1,Nat.mul_zero,Nat.add_zero] at e2 ⊢
  rw [hv,e1,e2,Nat.mul_add]
  omega
 ·rw [show k+1+n=k+n+1 by omega,RY h hZ,z1]
theorem mA {xs:List Nat}{k:Nat} (t:Nat) (h:k<xs.length):nth (xs.set k t) k=t:=by simp [nth,h]
theorem qB (xs:List Nat){k j:Nat} (t:Nat) (h:j≠k):nth (xs.set k t) j=nth xs j:=by
 simp [nth,List.getElem?_set_ne (show k≠j from fun e=>h e.symm)]
theorem All.set {b t:Nat}{xs:List Nat} (h:All b xs) (ht:t<b) (k:Nat):All b (xs.set k t):=by
 intro y hy
 rcases List.mem_or_eq_of_mem_set hy with h1 | h1
 ·exact h y h1
 ·subst h1;exact ht
theorem qA {b k:Nat}{xs:List Nat} (t:Nat) (h:k<xs.length):val b ((xs.set k t).drop k)=t+b*val b (xs.drop (k+1)):=by
 rw [fg b _ (by rw [List.length_set];exact h),mA t h,List.drop_set_of_lt (by omega)]
theorem Dh {m n:Nat}:cF m n<=0 ↔ m<=n:=by
 unfold cF
 rcases Nat.lt_trichotomy m n with h | h | h
 ·rw [if_pos h];omega
 ·subst h;simp
 ·rw [if_neg (by omega),if_neg (by omega)];omega
theorem tB {m n:Nat} (h:n<=m):0<=cF m n:=by
 unfold cF
 rw [if_neg (by omega)]
 split <;> omega
def di (b:Nat) (p y:Nat->Nat) (x:Nat):Nat->Nat
 | 0=>0
 | k+1=>(di b p y x k+x*y k) / b+if p k<(di b p y x k+x*y k) % b then 1 else 0
def z5 (b:Nat) (p y:Nat->Nat) (x k:Nat):Nat:=
 if p k<(di b p y x k+x*y k) % b then p k+b-(di b p y x k+x*y k) % b else p k-(di b p y x k+x*y k) % b
theorem RZ {b:Nat} (hb:0<b) (p y:Nat->Nat) (x k:Nat):z5 b p y x k+(di b p y x k+x*y k)=p k+b*di b p y x (k+1):=by
 simp only [z5,di]
 generalize di b p y x k+x*y k=t
 have h1:=Nat.div_add_mod t b
 have h2:=Nat.mod_lt t hb
 rw [Nat.mul_add]
 split
 ·rw [Nat.mul_one];omega
 ·rw [Nat.mul_zero];omega
theorem L5 {b:Nat}{p y:Nat->Nat}{x:Nat} (hx:x<b) (hy:∀j,y j<b) (k:Nat):di b p y x k<b:=by
 induction k with
 | zero=>simp only [di];omega
 | succ k ih=>
  simp only [di]
  have h1:x*y k<=(b-1)*(b-1):=Nat.mul_le_mul (by omega) (by have:=hy k;omega)
  obtain ⟨d,rfl⟩:∃d,b=d+1:=⟨b-1,by omega⟩
  rw [Nat.add_sub_cancel] at h1
  generalize ht:di (d+1) p y x k+x*y k=t at *
  have h2:t<=d*(d+1):=by rw [Nat.mul_add,Nat.mul_one];omega
  have h3:t / (d+1)<=d:=by
   have:=Nat.div_le_div_right (c:=d+1) h2
   rwa [Nat.mul_div_cancel _ (by omega)] at this
  split
  ·rename_i h4
   by_cases h5:t / (d+1)=d
   ·have h6:=Nat.div_add_mod t (d+1)
    rw [h5,Nat.mul_comm] at h6
    omega
   ·omega
  ·omega
theorem L6 {b:Nat}{p y:Nat->Nat}{x:Nat} (hb:0<b) (hp:∀j,p j<b) (k:Nat):z5 b p y x k<b:=by
 have h1:=hp k
 have h2:=Nat.mod_lt (di b p y x k+x*y k) hb
 simp only [z5]
 split <;> omega
theorem L7 {b:Nat} (hb:0<b) (p y:Nat->Nat) (x k:Nat):val b (pre (z5 b p y x) k)+x*val b (pre y k)=val b (pre p k)+b ^ k*di b p y x k:=by
 induction k with
 | zero=>simp [pre,val,di]
 | succ k ih=>
  rw [er,er,er]
  have e:=congrArg (fun z=>b ^ k*z) (RZ hb p y x k)
  simp only [Nat.mul_add] at e
  rw [Nat.mul_add,Nat.mul_left_comm x (b ^ k),Nat.pow_succ,Nat.mul_assoc]
  omega
def over (R Z:List Nat) (k:Nat):List Nat:=R.take k ++ (Z ++ R.drop (k+Z.length))
theorem iY {R Z:List Nat}{k:Nat} (h:k+Z.length<=R.length):(over R Z k).length=R.length:=by
 simp [over];omega
theorem Me {b:Nat}{R Z:List Nat} (hR:All b R) (hZ:All b Z) (k:Nat):All b (over R Z k):=(hR.take k).app (hZ.app (hR.drop _))
theorem qE {R Z:List Nat}{k j:Nat} (h:k+Z.length<=R.length) (hj:j<Z.length):nth (over R Z k) (k+j)=nth Z j:=by
 have ht:(R.take k).length=k:=by rw [List.length_take];omega
 rw [over,kA _ _ (by omega),ht,Nat.add_sub_cancel_left,nY _ _ hj]
theorem qF {R Z:List Nat}{k j:Nat} (h:k+Z.length<=R.length) (hj:j<k∨k+Z.length<=j):nth (over R Z k) j=nth R j:=by
 have ht:(R.take k).length=k:=by rw [List.length_take];omega
 rcases hj with hj | hj
 ·rw [over,nY _ _ (by omega),fa _ hj]
 ·rw [over,kA _ _ (by omega),ht,kA _ _ (by omega),iW]
  congr 1
  omega
theorem Md {b:Nat}{R Z:List Nat}{k:Nat} (h:k+Z.length<=R.length) (hz:val b (R.drop (k+Z.length))=0):val b (over R Z k)=val b (R.take k)+b ^ k*val b Z:=by
 have ht:(R.take k).length=k:=by rw [List.length_take];omega
 rw [over,mK,mK,ht,hz];simp
theorem AB {b:Nat}{R:List Nat}{k n D:Nat} (hb:0<b) (hk:k+n+1<=R.length) (hD:D<b ^ n) (hv:val b R<D*b ^ (k+1)) :
  val b R=val b (R.take k)+b ^ k*val b ((R.drop k).take (n+1))∧val b ((R.drop k).take (n+1))<D*b∧val b (R.drop (k+n+1))=0:=by
 have e1:=fU b R (k:=k) (by omega)
 have hp:0<b ^ k:=Nat.pow_pos hb
 have l1:val b (R.drop k)<D*b:=by
  have h1:b ^ k*val b (R.drop k)<b ^ k*(D*b):=by
   have:D*b ^ (k+1)=b ^ k*(D*b):=by rw [Nat.pow_succ,Nat.mul_left_comm]
   omega
  exact Nat.lt_of_mul_lt_mul_left h1
 have e2:=fU b (R.drop k) (k:=n+1) (by rw [List.length_drop];omega)
 rw [List.drop_drop,show k+(n+1)=k+n+1 by omega] at e2
 have l2:D*b<=b ^ (n+1):=by rw [Nat.pow_succ];exact Nat.mul_le_mul_right b (Nat.le_of_lt hD)
 have z:val b (R.drop (k+n+1))=0:=by
  rcases Nat.eq_zero_or_pos (val b (R.drop (k+n+1))) with h | h
  ·exact h
  ·have:=Nat.mul_le_mul_left (b ^ (n+1)) h
   omega
 rw [z,Nat.mul_zero,Nat.add_zero] at e2
 exact ⟨by rw [<- e2];exact e1,by rw [<- e2];exact l1,z⟩
theorem Mh {A B Q R t:Nat} (ht:0<t) (h:A*t=B*t*Q+R) (hR:R<B*t):A / B=Q∧A % B=R / t:=by
 have hB:0<B:=Nat.pos_of_ne_zero (fun h0=>by subst h0;omega)
 have e1:B*t*Q=B*Q*t:=by rw [Nat.mul_right_comm]
 have e2:B*Q<=A:=by
  have:B*Q*t<=A*t:=by omega
  exact Nat.le_of_mul_le_mul_right this ht
 obtain ⟨r,rfl⟩:∃r,A=B*Q+r:=⟨A-B*Q,by omega⟩
 have e3:R=r*t:=by rw [Nat.add_mul] at h;omega
 have e4:r<B:=by rw [e3] at hR;exact Nat.lt_of_mul_lt_mul_right hR
 constructor
 ·rw [Nat.mul_add_div hB,Nat.div_eq_of_lt e4];omega
 ·rw [Nat.mul_add_mod,Nat.mod_eq_of_lt e4,e3,Nat.mul_div_cancel _ ht]
theorem mend {P D q z z2 cc M:Nat} (hD:0<D) (hq:q<=P / D+1) (hs:P<q*D) (h1:z+q*D=P+M) (h2:z2+M*cc=z+D) (hz2:z2<M) (hM:D<M):q-1=P / D∧z2=P % D:=by
 have e0:=Nat.div_add_mod P D
 have e1:=Nat.mod_lt P hD
 have e2:q=P / D+1:=by
  rcases Nat.lt_or_ge q (P / D+1) with h | h
  ·have:=Nat.mul_le_mul_right D (Nat.le_of_lt_succ h)
   rw [Nat.mul_comm (P / D)] at this
   omega
  ·exact Nat.le_antisymm hq h
 subst e2
 refine ⟨rfl,?_⟩
 rw [Nat.add_mul,Nat.one_mul,Nat.mul_comm (P / D)] at h1
 generalize P % D=r at *
 generalize D*(P / D)=x at *
 have h3:z2+M*cc=M+r:=by omega
 cases cc with
 | zero=>omega
 | succ cc=>
  rw [Nat.mul_add,Nat.mul_one] at h3
  cases cc with
  | zero=>omega
  | succ cc=>rw [Nat.mul_add,Nat.mul_one] at h3;omega
theorem Mt {P D q z:Nat} (hD:0<D) (lo:P / D<=q) (h1:z+q*D=P):q=P / D∧z=P % D:=by
 have e0:=Nat.div_add_mod P D
 have e2:q<=P / D:=by rw [Nat.le_div_iff_mul_le hD];omega
 have e3:q=P / D:=Nat.le_antisymm e2 lo
 refine ⟨e3,?_⟩
 rw [e3,Nat.mul_comm] at h1
 omega
end Go.Proofs.YtbokonbbokhjlaaGreat
