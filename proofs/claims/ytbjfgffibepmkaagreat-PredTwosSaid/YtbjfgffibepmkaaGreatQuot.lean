/- Plain facts on numbers a -/
import GoSem.Claim
namespace Go.Proofs.YtbjfgffibepmkaaGreat
variable {D P b cy j k m n q t x z:Nat}{R Y Z xs ys:List Nat}{f g p y:Nat->Nat}{d:Int}
def nth (xs:List Nat) (j:Nat):Nat:=xs.getD j 0
theorem mD (xs:List Nat) (h:j<xs.length):xs[j]=nth xs j:=by simp [nth,h]
theorem FV (xs:List Nat) (h:j<xs.length):xs[j]?=some (nth xs j):=by simp [nth,h]
theorem eh (xs:List Nat) (h:xs.length<=j:=by omega):nth xs j=0:=by simp [nth,h]
theorem VK (xs:List Nat) (h:j<xs.length):nth xs j ∈ xs:=by rw [<- mD xs h];exact List.getElem_mem h
theorem oc (xs ys:List Nat) (h:j<xs.length):nth (xs ++ ys) j=nth xs j:=by simp [nth,List.getElem?_append,h]
theorem jW (xs ys:List Nat) (h:xs.length<=j:=by omega):nth (xs ++ ys) j=nth ys (j-xs.length):=by
 simp [nth,List.getElem?_append_right h]
theorem OC (xs:List Nat) (y:Nat):nth (xs ++ [y]) xs.length=y:=by simp [nth]
theorem fr (xs:List Nat) (h:j<k):nth (xs.take k) j=nth xs j:=by simp [nth,h]
theorem iL (xs:List Nat) (k j:Nat):nth (xs.drop k) j=nth xs (k+j):=by simp [nth,List.getElem?_drop]
theorem DQ (xs:List Nat) (h:k<xs.length):xs.take (k+1)=xs.take k ++ [nth xs k]:=by
 rw [List.take_add_one,List.getElem?_eq_getElem h,mD xs h];rfl
theorem nQ (xs:List Nat) (h:k<xs.length:=by omega):xs.drop k=nth xs k :: xs.drop (k+1):=by
 rw [List.drop_eq_getElem_cons h,mD xs h]
theorem ux  (hl:xs.length=ys.length) (h:∀j,j<xs.length->nth xs j=nth ys j):xs=ys:=by
 apply List.ext_getElem hl
 intro j h1 h2
 rw [mD xs h1,mD ys h2,h j h1]
def All (b:Nat) (xs:List Nat):Prop:=∀x,x ∈ xs->x<b
theorem All.nth  (h:All b xs) (hj:j<xs.length):nth xs j<b:=h _ (VK xs hj)
theorem All.of  (h:∀j,j<xs.length->Go.Proofs.YtbjfgffibepmkaaGreat.nth xs j<b):All b xs:=by
 intro x hx
 obtain ⟨j,hj,rfl⟩:=List.getElem_of_mem hx
 rw [mD xs hj];exact h j hj
theorem All.nil (b:Nat):All b []:=fun _ h=>by cases h
theorem All.cons  (hx:x<b) (h:All b xs):All b (x :: xs):=by
 intro y hy
 rcases List.mem_cons.1 hy with rfl | hy
 ·exact hx
 ·exact h y hy
theorem All.head  (h:All b (x :: xs)):x<b:=h x (by simp)
theorem All.tail  (h:All b (x :: xs)):All b xs:=fun y hy=>h y (by simp [hy])
theorem All.app  (h:All b xs) (k:All b ys):All b (xs ++ ys):=by
 intro y hy
 rcases List.mem_append.1 hy with hy | hy
 ·exact h y hy
 ·exact k y hy
theorem All.take  (h:All b xs) (k:Nat):All b (xs.take k):=fun y hy=>h y (List.mem_of_mem_take hy)
theorem All.drop  (h:All b xs) (k:Nat):All b (xs.drop k):=fun y hy=>h y (List.mem_of_mem_drop hy)
theorem All.mono {c:Nat} (h:All b xs) (hc:b<=c):All c xs:=fun y hy=>Nat.lt_of_lt_of_le (h y hy) hc
theorem All.kT  (h:x<b) (n:Nat):All b (List.replicate n x):=fun y hy=>by rw [(List.mem_replicate.1 hy).2];exact h
def val (b:Nat):List Nat->Nat
 | []=>0
 | x :: xs=>x+b*val b xs
theorem mE (b:Nat) (xs ys:List Nat):val b (xs ++ ys)=val b xs+b ^ xs.length*val b ys:=by
 induction xs with
 | nil=>simp [val]
 | cons x xs ih=>simp only [List.cons_append,val,ih,List.length_cons,Nat.pow_succ,Nat.mul_add];rw [Nat.mul_comm (b ^ xs.length) b,Nat.mul_assoc];omega
theorem mr (b:Nat) (xs:List Nat) (y:Nat):val b (xs ++ [y])=val b xs+b ^ xs.length*y:=by rw [mE];simp [val]
theorem iN (b:Nat) (xs:List Nat) (h:k<xs.length:=by omega):val b (xs.take (k+1))=val b (xs.take k)+b ^ k*nth xs k:=by
 rw [DQ xs h,mr,List.length_take,Nat.min_eq_left (by omega)]
theorem fC (b:Nat) (xs:List Nat) (h:k<=xs.length:=by omega):val b xs=val b (xs.take k)+b ^ k*val b (xs.drop k):=by
 have e:=mE b (xs.take k) (xs.drop k)
 rw [List.take_append_drop,List.length_take,Nat.min_eq_left h] at e
 exact e
theorem fa (b:Nat) (xs:List Nat) (h:k<xs.length):val b (xs.drop k)=nth xs k+b*val b (xs.drop (k+1)):=by
 rw [nQ xs (h:=h)];rfl
theorem jQ (b n:Nat):val b (List.replicate n 0)=0:=by
 induction n with
 | zero=>rfl
 | succ n ih=>simp [List.replicate_succ,val,ih]
theorem eu  (h:All b xs):val b xs<b ^ xs.length:=by
 induction xs with
 | nil=>simp [val]
 | cons x xs ih=>
  have h1:=h.head
  have h2:=ih h.tail
  simp only [val,List.length_cons,Nat.pow_succ]
  have h3:b*(val b xs+1)<=b*b ^ xs.length:=Nat.mul_le_mul_left b h2
  rw [Nat.mul_comm (b ^ xs.length) b]
  rw [Nat.mul_add] at h3
  omega
def gJ (b:Nat):Nat->Nat->List Nat
 | 0,_=>[]
 | f+1,n=>if n=0 then [] else n % b :: gJ b f (n / b)
def am (b n:Nat):List Nat:=gJ b n n
theorem VL  (hb:2<=b):∀f g n:Nat,n<=f->n<=g->gJ b f n=gJ b g n:=by
 intro f
 induction f with
 | zero=>
  intro g n h1 h2
  obtain rfl:n=0:=by omega
  cases g <;> simp [gJ]
 | succ f ih=>
  intro g n h1 h2
  by_cases h0:n=0
  ·subst h0
   cases g <;> simp [gJ]
  ·cases g with
   | zero=>omega
   | succ g=>
    have hd:n / b<n:=Nat.div_lt_self (by omega) (by omega)
    simp only [gJ,if_neg h0]
    rw [ih g (n / b) (by omega) (by omega)]
theorem iM (b:Nat):am b 0 = []:=rfl
theorem ik  (hb:2<=b) (h:0<n):am b n=n % b :: am b (n / b):=by
 cases n with
 | zero=>omega
 | succ n=>
  have hd:(n+1) / b<n+1:=Nat.div_lt_self (by omega) (by omega)
  simp only [am,gJ,if_neg (Nat.succ_ne_zero n)]
  rw [VL hb n ((n+1) / b) ((n+1) / b) (by omega) (by omega)]
theorem vz  (hb:2<=b){P:Nat->Prop} (h0:P 0) (h:∀n,0<n->P (n / b)->P n):∀n,P n:=by
 have aux:∀m n,n<=m->P n:=by
  intro m
  induction m with
  | zero=>intro n hn;obtain rfl:n=0:=(by omega);exact h0
  | succ m ih=>
   intro n hn
   by_cases hz:n=0
   ·subst hz;exact h0
   ·have hd:n / b<n:=Nat.div_lt_self (by omega) (by omega)
    exact h n (by omega) (ih _ (by omega))
 exact fun n=>aux n n (Nat.le_refl n)
theorem cN  (hb:2<=b):∀n,val b (am b n)=n:=by
 refine vz hb rfl ?_
 intro n hn ih
 rw [ik hb hn,val,ih]
 exact Nat.mod_add_div n b
theorem eC  (hb:2<=b):∀n,All b (am b n):=by
 refine vz hb (All.nil b) ?_
 intro n hn ih
 rw [ik hb hn]
 exact All.cons (Nat.mod_lt _ (by omega)) ih
def ib (xs:List Nat):Prop:=xs = []∨nth xs (xs.length-1)≠0
theorem ib.tail  (h:ib (x :: xs)):ib xs:=by
 cases xs with
 | nil=>exact .inl rfl
 | cons y ys=>
  refine .inr ?_
  rcases h with h | h
  ·cases h
  ·simpa [nth] using h
theorem BU  (h:ib xs) (hne:xs ≠ []) (hb:0<b:=by omega):0<val b xs:=by
 induction xs with
 | nil=>exact absurd rfl hne
 | cons x xs ih=>
  cases xs with
  | nil=>
   rcases h with h | h
   ·cases h
   ·simp [nth] at h;simp [val];omega
  | cons y ys=>
   have h1:=ih h.tail (by simp)
   simp only [val] at h1 ⊢
   have h2:0<b*(y+b*val b ys):=Nat.mul_pos hb h1
   omega
theorem qs  (hb:2<=b):∀n,ib (am b n):=by
 refine vz hb (.inl rfl) ?_
 intro n hn ih
 rw [ik hb hn]
 refine .inr ?_
 by_cases hq:n / b=0
 ·rw [hq,iM]
  have:n % b=n:=Nat.mod_eq_of_lt (by
   rcases Nat.lt_or_ge n b with h | h
   ·exact h
   ·have:=Nat.div_pos h (by omega:0<b);omega)
  simp [nth,this];omega
 ·rw [ik hb (Nat.pos_of_ne_zero hq)] at ih ⊢
  rcases ih with h | h
  ·cases h
  ·simpa [nth] using h
theorem uj  (ha:All b xs) (ht:ib xs) (hb:2<=b:=by omega):am b (val b xs)=xs:=by
 induction xs with
 | nil=>rfl
 | cons x xs ih=>
  have hp:=BU (b:=b) ht (by simp)
  rw [ik hb hp]
  have hx:=ha.head
  have e1:val b (x :: xs) % b=x:=by simp only [val];rw [Nat.add_mul_mod_self_left,Nat.mod_eq_of_lt hx]
  have e2:val b (x :: xs) / b=val b xs:=by simp only [val];rw [Nat.add_mul_div_left _ _ (by omega),Nat.div_eq_of_lt hx];omega
  rw [e1,e2,ih ha.tail ht.tail]
def ei (xs:List Nat):Nat->Nat
 | 0=>0
 | k+1=>if nth xs k=0 then ei xs k else k+1
theorem fQ (xs:List Nat) (k:Nat):ei xs k<=k:=by
 induction k with
 | zero=>exact Nat.le_refl _
 | succ k ih=>unfold ei;split <;> omega
theorem VM (xs:List Nat) (k:Nat):ei xs k=0∨nth xs (ei xs k-1)≠0:=by
 induction k with
 | zero=>exact .inl rfl
 | succ k ih=>
  unfold ei
  split
  ·exact ih
  ·exact .inr (by simpa)
theorem DR (b:Nat) (xs:List Nat) (k:Nat) (h:k<=xs.length):val b (xs.take (ei xs k))=val b (xs.take k):=by
 induction k with
 | zero=>rfl
 | succ k ih=>
  unfold ei
  split
  ·rename_i h0
   rw [ih (by omega),iN b xs,h0];simp
  ·rfl
def trim (xs:List Nat):List Nat:=xs.take (ei xs xs.length)
theorem ej (xs:List Nat):(trim xs).length=ei xs xs.length:=by
 rw [trim,List.length_take,Nat.min_eq_left (fQ _ _)]
theorem dH  (h:All b xs) (hb:2<=b:=by omega):trim xs=am b (val b xs):=by
 have e:val b (trim xs)=val b xs:=by
  have:=DR b xs xs.length (Nat.le_refl _)
  rwa [List.take_length] at this
 have t:ib (trim xs):=by
  rcases VM xs xs.length with h0 | h0
  ·exact .inl (by rw [trim,h0];rfl)
  ·by_cases hz:ei xs xs.length=0
   ·exact .inl (by rw [trim,hz];rfl)
   ·refine .inr ?_
    rw [ej,trim,fr _ (by omega)]
    exact h0
 have k:=uj (hb:=hb) (h.take (ei xs xs.length)) (show ib (xs.take (ei xs xs.length)) from t)
 rw [<- e]
 exact k.symm
theorem gl  (hb:2<=b) (k:Nat):∀n,n<b ^ k->(am b n).length<=k:=by
 induction k with
 | zero=>intro n h;obtain rfl:n=0:=(by simpa using h);simp [iM]
 | succ k ih=>
  intro n h
  by_cases h0:n=0
  ·subst h0;simp [iM]
  ·rw [ik hb (by omega),List.length_cons]
   have:=ih (n / b) (by rw [Nat.div_lt_iff_lt_mul (by omega)];rwa [Nat.pow_succ] at h)
   omega
theorem hH  (n:Nat) (hb:2<=b:=by omega):n<b ^ (am b n).length:=by
 have:=eu (eC hb n)
 rwa [cN hb] at this
theorem DS  (hb:2<=b) (h:k<(am b n).length):b ^ k<=n:=by
 rcases Nat.lt_or_ge n (b ^ k) with h1 | h1
 ·have:=gl hb k n h1;omega
 ·exact h1
theorem mq  (h:(am b m).length<(am b n).length) (hb:2<=b:=by omega):m<n:=
 Nat.lt_of_lt_of_le (hH (hb:=hb) m) (DS hb h)
theorem vC  (hb:2<=b:=by omega):am b n = [] ↔ n=0:=by
 constructor
 ·intro h;rw [<- cN hb n,h];rfl
 ·rintro rfl;rfl
theorem fz  (hb:2<=b:=by omega):(am b n).length=0 ↔ n=0:=by
 rw [List.length_eq_zero_iff,vC (hb:=hb)]
theorem DT  (hb:2<=b) (k:Nat):∀n,nth (am b n) k=n / b ^ k % b:=by
 induction k with
 | zero=>
  intro n
  by_cases h0:n=0
  ·subst h0;simp [iM,nth]
  ·rw [ik hb (by omega)];simp [nth]
 | succ k ih=>
  intro n
  by_cases h0:n=0
  ·subst h0;simp [iM,nth]
  ·rw [ik hb (by omega)]
   have:nth (n % b :: am b (n / b)) (k+1)=nth (am b (n / b)) k:=by simp [nth]
   rw [this,ih,Nat.div_div_eq_div_mul,Nat.pow_succ,Nat.mul_comm b]
theorem vD  (h0:0<n) (h:n<b) (hb:2<=b:=by omega):am b n = [n]:=by
 rw [ik hb h0,Nat.mod_eq_of_lt h,Nat.div_eq_of_lt h,iM]
def cT (m n:Nat):Int:=if m<n then -1 else if m=n then 0 else 1
theorem jL  (h:m<n):cT m n = -1:=by simp [cT,h]
theorem uh (n:Nat):cT n n=0:=by simp [cT]
theorem qF  (h:n<m):cT m n=1:=by
 unfold cT
 rw [if_neg (by omega),if_neg (by omega)]
theorem fV  (xs:List Nat):val b (trim xs)=val b xs:=by
 have:=DR b xs xs.length (Nat.le_refl _)
 rwa [List.take_length] at this
theorem qE {a c:List Nat} (hk:k<a.length) (hk':k<c.length) (hd:a.drop (k+1)=c.drop (k+1)) (ha:All b a)
  (h:nth a k<nth c k):val b a<val b c:=by
 have e1:=fC b a (k:=k)
 have e2:=fC b c (k:=k)
 rw [fa b a hk,hd] at e1
 rw [fa b c hk'] at e2
 have l1:=eu (ha.take k)
 rw [List.length_take,Nat.min_eq_left (by omega)] at l1
 have m1:b ^ k*(nth a k+1)<=b ^ k*nth c k:=Nat.mul_le_mul_left _ h
 rw [Nat.mul_add] at m1 e1 e2
 omega
def pre (f:Nat->Nat) (k:Nat):List Nat:=(List.range k).map f
theorem dh (f:Nat->Nat) (k:Nat):(pre f k).length=k:=by simp [pre]
theorem fk (f:Nat->Nat) (h:j<k):nth (pre f k) j=f j:=by simp [nth,pre,h]
theorem vE (f:Nat->Nat) (k:Nat):pre f (k+1)=pre f k ++ [f k]:=by simp [pre,List.range_succ]
theorem eU (b:Nat) (f:Nat->Nat) (k:Nat):val b (pre f (k+1))=val b (pre f k)+b ^ k*f k:=by rw [vE,mr,dh]
theorem fN  (h:∀j,j<k->f j<b):All b (pre f k):=by
 refine All.of fun j hj=>?_
 rw [dh] at hj
 rw [fk f hj]
 exact h j hj
theorem Mc  (h:∀j,j<k->f j=g j):pre f k=pre g k:=by
 refine ux (by rw [dh,dh]) fun j hj=>?_
 rw [dh] at hj
 rw [fk f hj,fk g hj,h j hj]
theorem tL (xs:List Nat) (h:k<=xs.length):pre (nth xs) k=xs.take k:=by
 refine ux (by rw [dh,List.length_take,Nat.min_eq_left h]) fun j hj=>?_
 rw [dh] at hj
 rw [fk _ hj,fr _ hj]
theorem AA (xs:List Nat):pre (nth xs) xs.length=xs:=by rw [tL xs (Nat.le_refl _),List.take_length]
theorem eG (b:Nat) (xs:List Nat) (h:xs.length<=k):val b (pre (nth xs) k)=val b xs:=by
 obtain ⟨d,rfl⟩:∃d,k=xs.length+d:=⟨k-xs.length,by omega⟩
 induction d with
 | zero=>rw [Nat.add_zero,AA]
 | succ d ih=>rw [<- Nat.add_assoc,eU,ih (by omega),eh xs];simp
def bM (b:Nat) (f g:Nat->Nat):Nat->Nat
 | 0=>0
 | k+1=>(bM b f g k+(f k+g k)) / b
def dU (b:Nat) (f g:Nat->Nat) (k:Nat):Nat:=(bM b f g k+(f k+g k)) % b
theorem ui  (hf:∀j,f j<b) (hg:∀j,g j<b) (k:Nat):bM b f g k<=1:=by
 induction k with
 | zero=>simp [bM]
 | succ k ih=>
  have h1:=hf k
  have h2:=hg k
  have h3:bM b f g k+(f k+g k)<b*2:=by omega
  have h4:=Nat.div_lt_of_lt_mul h3
  simp only [bM]
  omega
theorem qH  (f g:Nat->Nat) (k:Nat) (hb:0<b:=by omega):dU b f g k<b:=Nat.mod_lt _ hb
theorem nR (b:Nat) (f g:Nat->Nat) (k:Nat):val b (pre (dU b f g) k)+b ^ k*bM b f g k=val b (pre f k)+val b (pre g k):=by
 induction k with
 | zero=>simp [pre,val,bM]
 | succ k ih=>
  rw [eU,eU,eU]
  have e:b ^ (k+1)*bM b f g (k+1)+b ^ k*dU b f g k=b ^ k*(bM b f g k+(f k+g k)):=by
   simp only [bM,dU]
   rw [Nat.pow_succ,Nat.mul_assoc,<- Nat.mul_add,Nat.div_add_mod]
  rw [Nat.mul_add,Nat.mul_add] at e
  omega
theorem bE  (hb:0<b) (h:All b xs) (j:Nat):nth xs j<b:=by
 by_cases hj:j<xs.length
 ·exact h.nth hj
 ·rw [eh xs];exact hb
def fu (f:Nat->Nat):Nat->Nat
 | 0=>0
 | k+1=>max (fu f k) (f k)
def iK (f:Nat->Nat):Nat->Nat
 | 0=>0
 | k+1=>iK f k+f k
theorem Nl (f:Nat->Nat) (h:j<k):f j<=fu f k:=by
 induction k with
 | zero=>omega
 | succ k ih=>
  simp only [fu]
  by_cases e:j=k
  ·subst e;exact Nat.le_max_right _ _
  ·exact Nat.le_trans (ih (by omega)) (Nat.le_max_left _ _)
theorem Nd (f:Nat->Nat) (h:∀j,j<k->f j<=m):fu f k<=m:=by
 induction k with
 | zero=>exact Nat.zero_le _
 | succ k ih=>exact Nat.max_le.2 ⟨ih fun j hj=>h j (by omega),h k (by omega)⟩
theorem Nj (f:Nat->Nat) (k:Nat) (h:fu f k≠0):∃j,j<k∧fu f k=f j:=by
 induction k with
 | zero=>exact absurd rfl h
 | succ k ih=>
  simp only [fu] at h ⊢
  rcases Nat.le_total (fu f k) (f k) with h1 | h1
  ·exact ⟨k,by omega,Nat.max_eq_right h1⟩
  ·rw [Nat.max_eq_left h1] at h ⊢
   obtain ⟨j,hj,e⟩:=ih h
   exact ⟨j,by omega,e⟩
theorem Nk (f:Nat->Nat) (h:j<k):f j<=iK f k:=by
 induction k with
 | zero=>omega
 | succ k ih=>
  simp only [iK]
  by_cases e:j=k
  ·subst e;omega
  ·have:=ih (by omega);omega
theorem Bk  (ha:All b xs) (hv:xs = []∨b ^ (xs.length-1)<=val b xs):ib xs:=by
 by_cases hn:xs = []
 ·exact .inl hn
 ·refine .inr fun h0=>?_
  rcases hv with hv | hv
  ·exact hn hv
  have hl:0<xs.length:=List.length_pos_iff.2 hn
  have e:=fC b xs (k:=xs.length-1)
  rw [fa b xs (by omega),h0,show xs.length-1+1=xs.length by omega,List.drop_length] at e
  have l:=eu (ha.take (xs.length-1))
  rw [List.length_take,Nat.min_eq_left (by omega)] at l
  simp only [val,Nat.mul_zero,Nat.add_zero] at e
  omega
theorem ul  (hb:2<=b:=by omega) (h:(am b n).length≠0:=by omega):b ^ ((am b n).length-1)<=n:=DS hb (by omega)
def bm (f g:Nat->Nat):Nat->Nat
 | 0=>0
 | k+1=>if f k<g k+bm f g k then 1 else 0
def fE (b:Nat) (f g:Nat->Nat) (k:Nat):Nat:=(f k+b*bm f g (k+1))-(g k+bm f g k)
theorem nW (f g:Nat->Nat) (k:Nat):bm f g k<=1:=by
 cases k with
 | zero=>simp [bm]
 | succ k=>simp only [bm];split <;> omega
theorem qK  (hg:∀j,g j<b) (k:Nat):fE b f g k+(g k+bm f g k)=f k+b*bm f g (k+1):=by
 have h1:=nW f g k
 have h2:=hg k
 simp only [fE,bm]
 split
 ·rw [Nat.mul_one];omega
 ·rw [Nat.mul_zero];omega
theorem up  (hf:∀j,f j<b) (k:Nat):fE b f g k<b:=by
 have h2:=hf k
 simp only [fE,bm]
 split
 ·rw [Nat.mul_one];omega
 ·rw [Nat.mul_zero];omega
theorem DU  (hg:∀j,g j<b) (k:Nat):val b (pre (fE b f g) k)+val b (pre g k)=val b (pre f k)+b ^ k*bm f g k:=by
 induction k with
 | zero=>simp [pre,val,bm]
 | succ k ih=>
  rw [eU,eU,eU]
  have e:=congrArg (fun x=>b ^ k*x) (qK hg k:fE b f g k+(g k+bm f g k)=f k+b*bm f g (k+1))
  simp only [Nat.mul_add] at e
  rw [Nat.pow_succ,Nat.mul_assoc]
  omega
theorem Bo  (ax:All b xs) (ay:All b ys) (h0:0<b) (hl:ys.length<=xs.length) (h:val b ys<=val b xs):bm (nth xs) (nth ys) xs.length=0:=by
 have e:=DU (f:=nth xs) (bE h0 ay) xs.length
 rw [eG _ xs (Nat.le_refl _),eG _ ys hl] at e
 have l:=eu (fN (k:=xs.length) (fun j _=>up (g:=nth ys) (bE h0 ax) j))
 rw [dh] at l
 have c:=nW (nth xs) (nth ys) xs.length
 by_cases hc:bm (nth xs) (nth ys) xs.length=0
 ·exact hc
 ·rw [show bm (nth xs) (nth ys) xs.length=1 by omega] at e
  omega
theorem Bp  (ax:All b xs) (ay:All b ys) (hl:ys.length<=xs.length) (h:val b ys<=val b xs) (h0:0<b:=by omega) :
  val b (pre (fE b (nth xs) (nth ys)) xs.length)=val b xs-val b ys:=by
 have e:=DU (f:=nth xs) (bE h0 ay) xs.length
 rw [eG _ xs (Nat.le_refl _),eG _ ys hl,Bo ax ay h0 hl h] at e
 omega
theorem DV  (h:bm (nth xs) (nth ys) k=0) (hk:ys.length<=k) (j:Nat):bm (nth xs) (nth ys) (k+j)=0:=by
 induction j with
 | zero=>exact h
 | succ j ih=>
  rw [<- Nat.add_assoc]
  simp only [bm]
  rw [ih,eh ys]
  simp
theorem Nt  (h:bm (nth xs) (nth ys) k=0) (hk:ys.length<=k) (hj:k<=j:=by omega):fE b (nth xs) (nth ys) j=nth xs j:=by
 obtain ⟨d,rfl⟩:∃d,j=k+d:=⟨j-k,by omega⟩
 simp only [fE]
 rw [DV h hk d,Nat.add_assoc,DV h hk (d+1),eh ys]
 simp
def chC (b:Nat) (s:Nat->Nat) (c0:Nat):Nat->Nat
 | 0=>c0
 | k+1=>(chC b s c0 k+s k) / b
def gm (b:Nat) (s:Nat->Nat) (c0 k:Nat):Nat:=(chC b s c0 k+s k) % b
theorem ut (b:Nat) (s:Nat->Nat) (c0 k:Nat):val b (pre (gm b s c0) k)+b ^ k*chC b s c0 k=c0+val b (pre s k):=by
 induction k with
 | zero=>simp [pre,val,chC]
 | succ k ih=>
  rw [eU,eU]
  have e:b ^ (k+1)*chC b s c0 (k+1)+b ^ k*gm b s c0 k=b ^ k*(chC b s c0 k+s k):=by
   simp only [chC,gm]
   rw [Nat.pow_succ,Nat.mul_assoc,<- Nat.mul_add,Nat.div_add_mod]
  rw [Nat.mul_add] at e
  omega
theorem ur  (s:Nat->Nat) (c0 k:Nat) (hb:0<b:=by omega):gm b s c0 k<b:=Nat.mod_lt _ hb
theorem val_mul (b m:Nat) (f:Nat->Nat) (k:Nat):val b (pre (fun j=>f j*m) k)=val b (pre f k)*m:=by
 induction k with
 | zero=>simp [pre,val]
 | succ k ih=>rw [eU,eU,ih,Nat.add_mul,Nat.mul_assoc]
theorem val_add (b:Nat) (f g:Nat->Nat) (k:Nat):val b (pre (fun j=>f j+g j) k)=val b (pre f k)+val b (pre g k):=by
 induction k with
 | zero=>simp [pre,val]
 | succ k ih=>rw [eU,eU,eU,ih,Nat.mul_add];omega
theorem uq {s:Nat->Nat}{c0:Nat} (hs:∀j,s j+m<=b*m) (k:Nat) (h0:c0<m:=by omega):chC b s c0 k<m:=by
 induction k with
 | zero=>exact h0
 | succ k ih=>
  simp only [chC]
  have:=hs k
  exact Nat.div_lt_of_lt_mul (by omega)
theorem NB  (h:x<b):x*m+m<=b*m:=by
 have:=Nat.mul_le_mul_right m (show x+1<=b from h)
 rw [Nat.add_mul,Nat.one_mul] at this
 exact this
theorem NE {d:Nat} (hd:0<d) (hdb:b % d=0) (xs:List Nat){i:Nat} (hb:2<=b:=by omega) (hi:i<xs.length:=by omega) :
  (nth xs (i+1)*b+nth xs i) / d % b=nth (am b (val b xs / d)) i∨¬All b xs:=by
 by_cases ha:All b xs
 ·refine .inl ?_
  rw [DT hb,Nat.div_div_eq_div_mul,Nat.mul_comm d,<- Nat.div_div_eq_div_mul]
  have e1:val b xs / b ^ i=val b (xs.drop i):=by
   rw [fC b xs (k:=i)]
   have l:=eu (ha.take i)
   rw [List.length_take,Nat.min_eq_left (by omega)] at l
   rw [Nat.add_mul_div_left _ _ (Nat.pow_pos (by omega)),Nat.div_eq_of_lt l,Nat.zero_add]
  rw [e1,fa b xs hi]
  obtain ⟨q,hq⟩:∃q,b=d*q:=⟨b / d,(Nat.mul_div_cancel' (Nat.dvd_of_mod_eq_zero hdb)).symm⟩
  have e2:val b (xs.drop (i+1))=nth xs (i+1)+b*val b (xs.drop (i+2)):=by
   by_cases h:i+1<xs.length
   ·exact fa b xs h
   ·rw [List.drop_of_length_le (by omega),List.drop_of_length_le (by omega),eh xs];rfl
  rw [e2]
  generalize val b (xs.drop (i+2))=R
  generalize nth xs (i+1)=y
  generalize nth xs i=x
  have e3:x+b*(y+b*R)=(y*b+x)+d*(b*(q*R)):=by
   have:b*(b*R)=d*(b*(q*R)):=by
    calc b*(b*R)=b*((d*q)*R):=by rw [<- hq]
     _=d*(b*(q*R)):=by rw [Nat.mul_assoc,Nat.mul_left_comm]
   rw [Nat.mul_add,this,Nat.mul_comm b y]
   omega
  rw [e3,Nat.add_mul_div_left _ _ hd,Nat.add_mul_mod_self_left]
 ·exact .inr ha
theorem NH  (h1:b ^ k<=n) (h2:n<b ^ (k+1)) (hb:2<=b:=by omega):(am b n).length=k+1:=by
 have h3:=gl hb (k+1) n h2
 rcases Nat.lt_or_ge k (am b n).length with h | h
 ·omega
 ·have:=hH (hb:=hb) n
  have h4:b ^ (am b n).length<=b ^ k:=Nat.pow_le_pow_right (by omega) h
  omega
theorem LS  (ha:All b xs) (hk:k<=xs.length):val b (xs.drop k)=val b xs / b ^ k:=by
 rw [fC b xs (h:=hk)]
 have l:=eu (ha.take k)
 rw [List.length_take,Nat.min_eq_left hk] at l
 rw [Nat.add_mul_div_left _ _ (by omega),Nat.div_eq_of_lt l,Nat.zero_add]
def patch (Y Z:List Nat) (k n cy:Nat):List Nat:=Y.take k ++ (Z ++ (cy :: Y.drop (k+n+1)))
theorem NW  (h:k+n<Y.length) (hZ:Z.length=n):(patch Y Z k n cy).length=Y.length:=by
 simp [patch,hZ];omega
theorem NO  (hj:j<k) (h:k+n<Y.length:=by omega):nth (patch Y Z k n cy) j=nth Y j:=by
 rw [patch,oc _ _ (by rw [List.length_take];omega),fr _ hj]
theorem NP  (hZ:Z.length=n) (h:k+n<Y.length:=by omega) (hj:j<n:=by omega):nth (patch Y Z k n cy) (k+j)=nth Z j:=by
 have ht:(Y.take k).length=k:=by rw [List.length_take];omega
 rw [patch,jW _ _,ht,Nat.add_sub_cancel_left,oc _ _ (by omega)]
theorem NN  (hZ:Z.length=n) (h:k+n<Y.length:=by omega):nth (patch Y Z k n cy) (k+n)=cy:=by
 have ht:(Y.take k).length=k:=by rw [List.length_take];omega
 rw [patch,jW _ _,ht,Nat.add_sub_cancel_left,jW _ _,hZ,Nat.sub_self]
 simp [nth]
theorem NQ  (hZ:Z.length=n) (h:k+n<Y.length:=by omega) (hj:k+n<j:=by omega):nth (patch Y Z k n cy) j=nth Y j:=by
 have ht:(Y.take k).length=k:=by rw [List.length_take];omega
 rw [patch,jW _ _,ht,jW _ _,hZ]
 obtain ⟨i,rfl⟩:∃i,j=k+n+1+i:=⟨j-(k+n+1),by omega⟩
 rw [show k+n+1+i-k-n=i+1 by omega]
 have:nth (cy :: Y.drop (k+n+1)) (i+1)=nth (Y.drop (k+n+1)) i:=by simp [nth]
 rw [this,iL]
theorem NV  (aY:All b Y) (aZ:All b Z) (hc:cy<b):All b (patch Y Z k n cy):=
 (aY.take k).app (aZ.app (All.cons hc (aY.drop _)))
theorem VN  (h:k+n<Y.length) (hZ:Z.length=n):(patch Y Z k n cy).drop (k+n+1)=Y.drop (k+n+1):=by
 have ht:(Y.take k).length=k:=by rw [List.length_take];omega
 rw [patch,List.drop_append,ht,List.drop_of_length_le (by omega),List.nil_append,List.drop_append,hZ,List.drop_of_length_le (by omega),List.nil_append]
 rw [show k+n+1-k-n=1 by omega,List.drop_succ_cons,List.drop_zero]
theorem NT {T:Nat} (h:k+n<Y.length) (hz:val b (Y.drop (k+n))=0) (hZ:Z.length=n)
  (hb:0<b:=by omega) (hv:val b Z+b ^ n*cy=T+val b ((Y.drop k).take n):=by omega):val b (patch Y Z k n cy)=val b Y+b ^ k*T∧val b ((patch Y Z k n cy).drop (k+1+n))=0:=by
 have ht:(Y.take k).length=k:=by rw [List.length_take];omega
 have e0:=fa b Y (k:=k+n) h
 rw [hz] at e0
 have z1:val b (Y.drop (k+n+1))=0:=by
  rcases Nat.eq_zero_or_pos (val b (Y.drop (k+n+1))) with h1 | h1
  ·exact h1
  ·have:=Nat.mul_pos hb h1;omega
 constructor
 ·have e1:=fC b Y (k:=k)
  have e2:=fC b (Y.drop k) (k:=n) (h:=(by rw [List.length_drop];omega))
  rw [List.drop_drop,hz] at e2
  rw [patch,mE,mE,ht,hZ]
  simp only [val,z1,Nat.mul_zero,Nat.add_zero] at e2 ⊢
  rw [hv,e1,e2,Nat.mul_add]
  omega
 ·rw [show k+1+n=k+n+1 by omega,VN h hZ,z1]
theorem ms  (t:Nat) (h:k<xs.length):nth (xs.set k t) k=t:=by simp [nth,h]
theorem qL (xs:List Nat) (t:Nat) (h:j≠k):nth (xs.set k t) j=nth xs j:=by
 simp [nth,List.getElem?_set_ne (show k≠j from fun e=>h e.symm)]
theorem All.set  (h:All b xs) (ht:t<b) (k:Nat):All b (xs.set k t):=by
 intro y hy
 rcases List.mem_or_eq_of_mem_set hy with h1 | h1
 ·exact h y h1
 ·subst h1;exact ht
theorem nY  (t:Nat) (h:k<xs.length):val b ((xs.set k t).drop k)=t+b*val b (xs.drop (k+1)):=by
 rw [fa b _ (by rw [List.length_set];exact h),ms t h,List.drop_set_of_lt (by omega)]
theorem DW :cT m n<=0 ↔ m<=n:=by
 unfold cT
 rcases Nat.lt_trichotomy m n with h | h | h
 ·rw [if_pos h];omega
 ·subst h;simp
 ·rw [if_neg (by omega),if_neg (by omega)];omega
theorem tP  (h:n<=m):0<=cT m n:=by
 unfold cT
 rw [if_neg (by omega)]
 split <;> omega
def dr (b:Nat) (p y:Nat->Nat) (x:Nat):Nat->Nat
 | 0=>0
 | k+1=>(dr b p y x k+x*y k) / b+if p k<(dr b p y x k+x*y k) % b then 1 else 0
def kV (b:Nat) (p y:Nat->Nat) (x k:Nat):Nat:=
 if p k<(dr b p y x k+x*y k) % b then p k+b-(dr b p y x k+x*y k) % b else p k-(dr b p y x k+x*y k) % b
theorem VO  (hb:0<b) (p y:Nat->Nat) (x k:Nat):kV b p y x k+(dr b p y x k+x*y k)=p k+b*dr b p y x (k+1):=by
 simp only [kV,dr]
 generalize dr b p y x k+x*y k=t
 have h1:=Nat.div_add_mod t b
 have h2:=Nat.mod_lt t hb
 rw [Nat.mul_add]
 split
 ·rw [Nat.mul_one];omega
 ·rw [Nat.mul_zero];omega
theorem Oy  (hx:x<b) (hy:∀j,y j<b) (k:Nat):dr b p y x k<b:=by
 induction k with
 | zero=>simp only [dr];omega
 | succ k ih=>
  simp only [dr]
  have h1:x*y k<=(b-1)*(b-1):=Nat.mul_le_mul (by omega) (by have:=hy k;omega)
  obtain ⟨d,rfl⟩:∃d,b=d+1:=⟨b-1,by omega⟩
  rw [Nat.add_sub_cancel] at h1
  generalize ht:dr (d+1) p y x k+x*y k=t at *
  have h2:t<=d*(d+1):=by rw [Nat.mul_add,Nat.mul_one];omega
  have h3:t / (d+1)<=d:=by
   have:=Nat.div_le_div_right (c:=d+1) h2
   rwa [Nat.mul_div_cancel _ (by omega)] at this
  split
  ·rename_i h4
   by_cases h5:t / (d+1)=d
   ·have h6:=Nat.div_add_mod t (d+1)
    rw [h5,Nat.mul_comm] at h6
    omega
   ·omega
  ·omega
theorem Oz  (hp:∀j,p j<b) (k:Nat) (hb:0<b:=by omega):kV b p y x k<b:=by
 have h1:=hp k
 have h2:=Nat.mod_lt (dr b p y x k+x*y k) hb
 simp only [kV]
 split <;> omega
theorem OA  (p y:Nat->Nat) (x k:Nat) (hb:0<b:=by omega):val b (pre (kV b p y x) k)+x*val b (pre y k)=val b (pre p k)+b ^ k*dr b p y x k:=by
 induction k with
 | zero=>simp [pre,val,dr]
 | succ k ih=>
  rw [eU,eU,eU]
  have e:=congrArg (fun z=>b ^ k*z) (VO hb p y x k)
  simp only [Nat.mul_add] at e
  rw [Nat.mul_add,Nat.mul_left_comm x (b ^ k),Nat.pow_succ,Nat.mul_assoc]
  omega
def over (R Z:List Nat) (k:Nat):List Nat:=R.take k ++ (Z ++ R.drop (k+Z.length))
theorem iO  (h:k+Z.length<=R.length):(over R Z k).length=R.length:=by
 simp [over];omega
theorem OI  (hR:All b R) (hZ:All b Z) (k:Nat):All b (over R Z k):=(hR.take k).app (hZ.app (hR.drop _))
theorem qO  (h:k+Z.length<=R.length:=by omega) (hj:j<Z.length:=by omega):nth (over R Z k) (k+j)=nth Z j:=by
 have ht:(R.take k).length=k:=by rw [List.length_take];omega
 rw [over,jW _ _,ht,Nat.add_sub_cancel_left,oc _ _ hj]
theorem qP  (h:k+Z.length<=R.length:=by omega) (hj:j<k∨k+Z.length<=j:=by omega):nth (over R Z k) j=nth R j:=by
 have ht:(R.take k).length=k:=by rw [List.length_take];omega
 rcases hj with hj | hj
 ·rw [over,oc _ _ (by omega),fr _ hj]
 ·rw [over,jW _ _,ht,jW _ _,iL]
  congr 1
  omega
theorem OH  (hz:val b (R.drop (k+Z.length))=0) (h:k+Z.length<=R.length:=by omega):val b (over R Z k)=val b (R.take k)+b ^ k*val b Z:=by
 have ht:(R.take k).length=k:=by rw [List.length_take];omega
 rw [over,mE,mE,ht,hz];simp
theorem BH  (hk:k+n+1<=R.length) (hD:D<b ^ n) (hv:val b R<D*b ^ (k+1)) (hb:0<b:=by omega) :
  val b R=val b (R.take k)+b ^ k*val b ((R.drop k).take (n+1))∧val b ((R.drop k).take (n+1))<D*b∧val b (R.drop (k+n+1))=0:=by
 have e1:=fC b R (k:=k)
 have hp:0<b ^ k:=Nat.pow_pos hb
 have l1:val b (R.drop k)<D*b:=by
  have h1:b ^ k*val b (R.drop k)<b ^ k*(D*b):=by
   have:D*b ^ (k+1)=b ^ k*(D*b):=by rw [Nat.pow_succ,Nat.mul_left_comm]
   omega
  exact Nat.lt_of_mul_lt_mul_left h1
 have e2:=fC b (R.drop k) (k:=n+1) (h:=(by rw [List.length_drop];omega))
 rw [List.drop_drop,show k+(n+1)=k+n+1 by omega] at e2
 have l2:D*b<=b ^ (n+1):=by rw [Nat.pow_succ];exact Nat.mul_le_mul_right b (Nat.le_of_lt hD)
 have z:val b (R.drop (k+n+1))=0:=by
  rcases Nat.eq_zero_or_pos (val b (R.drop (k+n+1))) with h | h
  ·exact h
  ·have:=Nat.mul_le_mul_left (b ^ (n+1)) h
   omega
 rw [z,Nat.mul_zero,Nat.add_zero] at e2
 exact ⟨by rw [<- e2];exact e1,by rw [<- e2];exact l1,z⟩
theorem OL {A B Q R:Nat} (ht:0<t) (h:A*t=B*t*Q+R) (hR:R<B*t):A / B=Q∧A % B=R / t:=by
 have hB:0<B:=Nat.pos_of_ne_zero (fun h0=>by subst h0;omega)
 have e1:B*t*Q=B*Q*t:=by rw [Nat.mul_right_comm]
 have e2:B*Q<=A:=by
  have:B*Q*t<=A*t:=by omega
  exact Nat.le_of_mul_le_mul_right this ht
 obtain ⟨r,rfl⟩:∃r,A=B*Q+r:=⟨A-B*Q,by omega⟩
 have e3:R=r*t:=by rw [Nat.add_mul] at h;omega
 have e4:r<B:=by rw [e3] at hR;exact Nat.lt_of_mul_lt_mul_right hR
 constructor
 ·rw [Nat.mul_add_div hB,Nat.div_eq_of_lt e4];omega
 ·rw [Nat.mul_add_mod,Nat.mod_eq_of_lt e4,e3,Nat.mul_div_cancel _ ht]
theorem mend {z2 cc M:Nat} (hD:0<D) (hq:q<=P / D+1) (hs:P<q*D) (h1:z+q*D=P+M) (h2:z2+M*cc=z+D) (hz2:z2<M) (hM:D<M):q-1=P / D∧z2=P % D:=by
 have e0:=Nat.div_add_mod P D
 have e1:=Nat.mod_lt P hD
 have e2:q=P / D+1:=by
  rcases Nat.lt_or_ge q (P / D+1) with h | h
  ·have:=Nat.mul_le_mul_right D (Nat.le_of_lt_succ h)
   rw [Nat.mul_comm (P / D)] at this
   omega
  ·exact Nat.le_antisymm hq h
 subst e2
 refine ⟨rfl,?_⟩
 rw [Nat.add_mul,Nat.one_mul,Nat.mul_comm (P / D)] at h1
 generalize P % D=r at *
 generalize D*(P / D)=x at *
 have h3:z2+M*cc=M+r:=by omega
 cases cc with
 | zero=>omega
 | succ cc=>
  rw [Nat.mul_add,Nat.mul_one] at h3
  cases cc with
  | zero=>omega
  | succ cc=>rw [Nat.mul_add,Nat.mul_one] at h3;omega
theorem Pa  (hD:0<D) (lo:P / D<=q) (h1:z+q*D=P):q=P / D∧z=P % D:=by
 have e0:=Nat.div_add_mod P D
 have e2:q<=P / D:=by rw [Nat.le_div_iff_mul_le hD];omega
 have e3:q=P / D:=Nat.le_antisymm e2 lo
 refine ⟨e3,?_⟩
 rw [e3,Nat.mul_comm] at h1
 omega
def aW (n d:Int):Rat:=if d=0 then Rat.divInt n 1 else Rat.divInt n d
theorem iR {n:Int} (h:d≠0):aW n d=Rat.divInt n d:=by rw [aW,if_neg h]
theorem Rx (n:Int):aW n 1=Rat.divInt n 1:=by rw [aW,if_neg (by omega)]
theorem VP (q:Rat):aW q.num q.den=q:=by
 rw [iR (by have:=q.den_nz;omega),Rat.num_divInt_den]
def de (n d:Int):Int:=if d<0 then -(Int.gcd n d:Int) else (Int.gcd n d:Int)
theorem VQ {n:Int} (hd:d≠0):0<(Int.gcd n d:Int):=by
 have:=Int.gcd_pos_of_ne_zero_right n hd
 omega
theorem jX {n:Int} (hd:d≠0:=by omega):de n d≠0:=by
 have:=VQ (n:=n) hd
 unfold de;split <;> omega
theorem rn (n d:Int):de n d∣n:=by
 unfold de;split
 ·exact Int.neg_dvd.2 (Int.gcd_dvd_left ..)
 ·exact Int.gcd_dvd_left ..
theorem ro (n d:Int):de n d∣d:=by
 unfold de;split
 ·exact Int.neg_dvd.2 (Int.gcd_dvd_right ..)
 ·exact Int.gcd_dvd_right ..
theorem vF {n:Int} (hd:d≠0:=by omega):n / de n d=(Rat.divInt n d).num:=by
 rw [Rat.num_divInt,Int.gcd_comm d n]
 unfold de
 by_cases h:d<0
 ·rw [if_pos h,Int.sign_eq_neg_one_of_neg h,Int.ediv_neg,<- Int.neg_ediv_of_dvd (Int.gcd_dvd_left ..)]
  congr 1;omega
 ·rw [if_neg h,Int.sign_eq_one_of_pos (by omega),Int.one_mul]
theorem vH {n:Int} (hd:d≠0:=by omega):d / de n d=((Rat.divInt n d).den:Int):=by
 rw [Rat.den_divInt,if_neg hd,Int.gcd_comm d n]
 unfold de
 rw [Int.natCast_ediv]
 by_cases h:d<0
 ·rw [if_pos h,Int.ediv_neg,<- Int.neg_ediv_of_dvd (Int.gcd_dvd_right ..)]
  congr 1;omega
 ·rw [if_neg h];congr 1;omega
theorem Ve (n d:Int):(Rat.divInt n d).num.natAbs<=n.natAbs:=by
 by_cases hd:d=0
 ·subst hd;simp
 ·rw [<- vF (hd:=hd)];exact Int.natAbs_ediv_le_natAbs ..
theorem Vf {n:Int} (hd:d≠0):(Rat.divInt n d).den<=d.natAbs:=by
 have h:=vH (n:=n) (hd:=hd)
 have h2:=Int.natAbs_ediv_le_natAbs d (de n d)
 rw [h] at h2
 simpa using h2
end Go.Proofs.YtbjfgffibepmkaaGreat
