/- Package orreryref01 -/
import Derived.Test.YtlmanbjkkjfjgaaGreatLimbL
set_option maxRecDepth 100000
namespace Go.Proofs.YtlmanbjkkjfjgaaGreat
open Go.Proofs.Tryz
open Lib (hid)
open Go.RowKit
variable {w:World}{e:TypeId}{B X Y a b c c0 i j k m n r:Nat}{u v:Value}{R xs ys:List Nat}
theorem afm (b off n cap:Nat) (xs:List Nat) (w:World) (hn:n<=xs.length) (hcap:n<=cap) (hm:cap<=9223372036854775807)
  (hc:∀j,j<xs.length->w.cell? ⟨b,off+j,none⟩=some (.int .i64 (nth xs j))) :
  Calls prog 98 #[.slice (some ⟨b,off,none⟩) n cap] w λe w'=>e = .returned (.slice (some ⟨b,off,none⟩) (eW xs n) cap)∧w=w':=by
 go_enter func98,ntmps98
 go_wp2
 go_loop [3] (λv=>∃k:Nat,k<=n∧v = .int .i64 k∧eW xs k=eW xs n) (λv=>(intOf v).toNat)
 case atStart=>exact ⟨n,by omega,rfl,rfl⟩
 case round=>
  obtain ⟨k,hk,rfl,ht⟩:=hrel;have HT:=hid ht;clear ht;cases k with
  | zero=>
   go_wp2
   go_ret
   exact ⟨by rw [<- HT.out];rfl,rfl⟩
  | succ k=>
   have hcell:=hc k (by omega);clear hc;have hkc:k<=cap:=by omega
   by_cases h0:nth xs k=0
   ·have hb:=FG h0;have HZ:=hid h0;clear h0;go_wp2
    go_round
    case rel=>exact ⟨k,by omega,by go_num,by rw [<- HT.out];simp [eW,HZ.out]⟩
    case measure=>simp [intOf];try omega
   ·have hb:=FH h0;go_wp2
    go_ret
    exact ⟨by rw [<- HT.out];simp [eW,h0],rfl⟩
set_option maxHeartbeats 400000 in
theorem afn (p:Option Addr) (cap:Nat) (w:World) :
  Calls prog 98 #[.slice p 0 cap] w λe w'=>e = .returned (.slice p 0 cap)∧w=w':=by
 go_enter func98,ntmps98
 go_wp2
 refine wp_loop_rounds 1 ?_;rw [rounds_succ];go_wp2
 go_ret
 exact ⟨rfl,rfl⟩
theorem pD (p:Option Addr) (n cap:Nat) (xs:List Nat) (w:World) (h:Sl w .i64 (.slice p n cap) xs) :
  Calls prog 98 #[.slice p n cap] w λe w'=>e = .returned (.slice p (trim xs).length cap)∧w=w':=by
 obtain ⟨p',cap',e,h1,h2,h3⟩:=h;simp only [Value.slice.injEq] at e;obtain ⟨rfl,rfl,rfl⟩:=e;rw [eX];rcases h3 with rfl | ⟨b,off,rfl,h4,h5⟩
 ·exact afn _ _ _
 ·exact afm b off xs.length cap xs w (Nat.le_refl _) h1 h2 h5
theorem Own.slice {k:IntKind} (h:Own w e k B v xs):∃p cap,v = .slice p xs.length cap:=by obtain ⟨p,cap,rfl,-⟩:=h.sl;exact ⟨p,cap,rfl⟩
def ms (w:World) (X:Nat) (e:Ending) (w':World):Prop:=Made 3 .i64 w (an 10000 X) e w'
theorem afo  (hk:xs.length<=k) (h0:chC 10000 (λj=>nth xs j*m) c0 k=0):val 10000 (pre (iu 10000 (λj=>nth xs j*m) c0) k)=val 10000 xs*m+c0:=by have:=xR 10000 (λj=>nth xs j*m) c0 k;rw [h0,val_mul,fi _ _ hk] at this;omega
set_option maxHeartbeats 1000000 in
theorem afp  (m c0:Nat) (hx:Sl w .i64 v xs) (ax:All 10000 xs) (hm:m<=65536) (hc:c0<=65536) (hlen:xs.length<=8796093022208) :
  Calls prog 96 #[v,.int .i64 m,.int .i64 c0] w (ms w (val 10000 xs*m+c0)):=by
 obtain ⟨p,cap,rfl,h1,h2,h3⟩:=id hx;obtain ⟨i0,hi,hz0,hz1,hz2⟩:=info_parts Tryz.infoI;obtain ⟨n,hn⟩:∃n,xs.length=n:=⟨_,rfl⟩;have Cb:=hid (λk=>xP (b:=10000) (m:=65537) (s:=λj=>nth xs j*m) (c0:=c0) (λj=>by
  have b1:nth xs j<=9999:=by have:=cm (by omega) ax j;omega
  have:=Nat.mul_le_mul b1 hm;show nth xs j*m+65537<=_;omega) k)
 rw [hn] at hlen h1 ⊢;have Hx:=hid hx;have Ax:=hid ax;have H3:=hid h3;have Hn:=hid hn;clear hx ax h3 hn;go_enter func96,ntmps96
 go_wp2_with (at_make;refine jd rfl _ _ 53 rfl 3 i0 (.int .i64 0) underlying53 hi hz0 hz1 rfl _ _ _ _ 0 (n+2) rfl rfl (by omega) ?_;intro w1 r1 g1 s1;have R1:=hid r1;have G1:=hid g1;clear r1 g1)
 go_loopw [2,7,8] (λcv o i wr=>∃k:Nat,i = .int .i64 k∧cv = .int .i64 (chC 10000 (λj=>nth xs j*m) c0 k:Nat)∧k+chC 10000 (λj=>nth xs j*m) c0 k<=n+65537∧Own wr 3 .i64 w.heap.size o (pre (iu 10000 (λj=>nth xs j*m) c0) k)∧w.grownBy wr none∧w.heap.size<wr.heap.size) (λcv _ i _=>(n-(intOf i).toNat)*100000+(intOf cv).toNat)
 case atStart=>
  refine ⟨0,rfl,rfl,by show 0+c0<=_;omega,.inr ⟨w.heap.size,n+2,_,rfl,Nat.le_refl _,R1.out,by simp [pre],by omega,λj hj=>by simp [pre] at hj⟩,G1.out,by omega⟩
 case round=>
  obtain ⟨k,rfl,rfl,hk,ho,gr,sr⟩:=hrel;have cb:=Cb.out k;have cb':=Cb.out (k+1);have HC:=hid (show chC 10000 (λj=>nth xs j*m) c0 (k+1)=(chC 10000 (λj=>nth xs j*m) c0 k+nth xs k*m) / 10000 from rfl);have HD:=hid (show pre (iu 10000 (λj=>nth xs j*m) c0) (k+1)=pre (iu 10000 (λj=>nth xs j*m) c0) k ++ [(chC 10000 (λj=>nth xs j*m) c0 k+nth xs k*m) % 10000] from zk _ _);obtain ⟨Z,hZ⟩:∃Z,pre (iu 10000 (λj=>nth xs j*m) c0) k=Z:=⟨_,rfl⟩;have zl:Z.length=k:=by rw [<- hZ,dW]
  rw [hZ] at HD ho;have HZ:=hid hZ;have Ho:=hid ho;have Gr:=hid gr;have Zl:=hid zl;obtain ⟨op,eZ,rfl⟩:=ho.slice;rw [zl] at Ho;generalize hcr:chC 10000 (λj=>nth xs j*m) c0 k=cr at *
  have Hcr:=hid hcr;generalize hcs:chC 10000 (λj=>nth xs j*m) c0 (k+1)=cs at *
  have Hcs:=hid hcs;clear hZ ho gr hcr hcs;rw [zl];clear zl;by_cases hlt:k<n
  ·rcases H3.out with h3 | ⟨b,off,rfl,hbl,hy⟩
   ·have:=Hn.out;rw [h3] at this;simp at this;omega
   have c1:wr.cell? ⟨b,off+k,none⟩=some (.int .i64 (nth xs k)):=by rw [World.cell?_of_block (w:=w) (Gr.out.block b hbl (by simp)),hy k (by rw [Hn.out];omega)]
   clear hy;have b1:nth xs k<10000:=Ax.out.nth (by rw [Hn.out];omega);have b2:nth xs k*m<=655350000:=by have:=Nat.mul_le_mul (show nth xs k<=9999 by omega) hm;omega
   obtain ⟨t,ht⟩:∃t,nth xs k*m=t:=⟨_,rfl⟩;rw [ht] at HC HD b2;have ht':((nth xs k:Nat):Int)*(m:Int)=(t:Int):=by rw [<- ht,Int.natCast_mul]
   clear ht;go_wp2_with (at_builtin;refine jD rfl _ _ 53 rfl 3 i0 (.int .i64 0) .i64 underlying53 hi hz0 hz1 rfl w.heap.size (.slice op k eZ) Z ((cr+t) % 10000) rfl (Ho.out.grown (bn _ _ none) (.inl rfl)) wr.heap.size rfl ?c1 (by rw [Zl.out];omega) (by simp;omega) ?_;(case c1=>exact (World.cell?_alloc_at _ _ _ _ rfl).trans (by simp));intro v' w3 ho3 g3;have el:=hid ho3;have G3:=hid (ke (v:=.slice op k eZ) g3 (Ho.out.grown (bn _ _ none) (.inl rfl)) (bf Gr.out (bn _ _ _)));have s3:=g3.size;clear ho3 g3)
   go_roundw
   case rel=>exact ⟨k+1,by go_num,int_eq (by rw [Hcs.out,HC.out];omega),by rw [Hcs.out];omega,by rw [HD.out];exact el.out,G3.out,by simp at s3;omega⟩
   case measure=>
    have h:=HC.out;have h2:(((cr:Int)+(t:Int)) / 10000)=((cs:Nat):Int):=by omega
    rw [h2];simp only [intOf];omega
  ·have y0:nth xs k=0:=eV xs (h:=(by rw [Hn.out];omega));rw [y0] at HC HD;have hC:=HC.out;clear y0;by_cases hcr:cr=0
   ·subst hcr;go_wp2_with fail
    refine (pD _ _ _ Z _ Ho.out.sl).mono ?_;rintro e w' ⟨rfl,rfl⟩;go_wp2_with fail
    go_ret
    have e:=afo (m:=m) (c0:=c0) (by rw [Hn.out];omega) Hcr.out;rw [HZ.out] at e;have az:All 10000 Z:=by rw [<- HZ.out];exact gJ (λj _=>xQ _ _ _)
    refine ⟨_,rfl,?_,Gr.out⟩;rw [<- e,<- eC az];exact (Zl.out▸Ho.out:Own wr 3 .i64 w.heap.size (.slice op Z.length eZ) Z).trim
   ·have hcp:0<cr:=by omega
    go_wp2_with (at_builtin;refine jD rfl _ _ 53 rfl 3 i0 (.int .i64 0) .i64 underlying53 hi hz0 hz1 rfl w.heap.size (.slice op k eZ) Z (cr % 10000) rfl (Ho.out.grown (bn _ _ none) (.inl rfl)) wr.heap.size rfl ?c1 (by rw [Zl.out];omega) (by simp;omega) ?_;(case c1=>exact (World.cell?_alloc_at _ _ _ _ rfl).trans (by simp));intro v' w3 ho3 g3;have el:=hid ho3;have G3:=hid (ke (v:=.slice op k eZ) g3 (Ho.out.grown (bn _ _ none) (.inl rfl)) (bf Gr.out (bn _ _ _)));have s3:=g3.size;clear ho3 g3)
    go_roundw
    case rel=>exact ⟨k+1,by go_num,int_eq (by rw [Hcs.out,HC.out];omega),by rw [Hcs.out];omega,by rw [HD.out];simpa using el.out,G3.out,by simp at s3;omega⟩
    case measure=>simp only [intOf];omega
theorem Kh  (h:Bd X k):(an 10000 X).length<=3*k:=by refine iq (by omega) _ X ?_;rw [Nat.pow_mul];exact Nat.lt_of_lt_of_le h (Nat.pow_le_pow_left (by omega) k)
def Kj (w:World) (X:Nat) (e:Ending) (w':World):Prop:=
 ∃v,e = .returned (.tuple #[v,.int .i64 ((X % 65536:Nat):Int)])∧Own w' 3 .i64 w.heap.size v (an 10000 (X / 65536))∧w.grownBy w' none
set_option maxHeartbeats 1000000 in
theorem afq  (hx:Sl w .i64 v xs) (ax:All 10000 xs) (hlen:xs.length<=8796093022208) :
  Calls prog 97 #[v,.int .i64 65536] w (Kj w (val 10000 xs)):=by
 obtain ⟨p,cap,rfl,h1,h2,h3⟩:=id hx;obtain ⟨i0,hi,hz0,hz1,hz2⟩:=info_parts Tryz.infoI;have Hx:=hid hx;have Ax:=hid ax;have H3:=hid h3;clear hx ax h3;obtain ⟨n,hn⟩:∃n,xs.length=n:=⟨_,rfl⟩;rw [hn] at hlen h1 ⊢;have Hn:=hid hn;clear hn;go_enter func97,ntmps97
 go_wp2_with (at_make;refine jd rfl _ _ 53 rfl 3 i0 (.int .i64 0) underlying53 hi hz0 hz1 rfl _ _ _ _ n n rfl rfl (Nat.le_refl _) ?_;intro w1 r1 g1 s1;have R1:=hid r1;have G1:=hid g1;clear r1 g1)
 go_loopw [7,8] (λcv i wr=>∃(k r:Nat) (q:Int) (Z:List Nat),k<=n∧i = .int .i64 q∧q=(k:Int)-1∧cv = .int .i64 r∧r<65536∧Z.length=n∧All 10000 Z ∧
   val 10000 (xs.drop k)=val 10000 (Z.drop k)*65536+r∧aN wr 3 w.heap.size n (λj=>.int .i64 (nth Z j))∧w.grownBy wr none∧w.heap.size<wr.heap.size) (λ_ i _=>(intOf i+1).toNat)
 case atStart=>
  refine ⟨n,0,_,List.replicate n 0,by omega,rfl,rfl,rfl,by omega,by simp,All.no (by omega) _,?_,R1.out.congr λj hj=>by simp [nth,hj],G1.out,by omega⟩;rw [List.drop_of_length_le (by rw [Hn.out];omega),List.drop_replicate,lW];simp [val]
 case round=>
  obtain ⟨k,r,q,Z,hk,rfl,hq,rfl,hr,zl,za,hv,rr,gr,sr⟩:=hrel;have Zl:=hid zl;have Za:=hid za;have Hv:=hid hv;have Gr:=hid gr;cases k with
  | zero=>
   obtain rfl:q = -1:=by omega
   have ho:Own wr 3 .i64 w.heap.size (.slice (some ⟨w.heap.size,0,none⟩) n n) Z:=
    .inr ⟨w.heap.size,_,_,by rw [zl],Nat.le_refl _,rr,by omega,by omega,λj _=>rfl⟩
   have Ho:=hid ho;clear ho zl za hv gr rr hq;go_wp2_with fail
   refine (pD _ _ _ Z _ Ho.out.sl).mono ?_;rintro e w'' ⟨rfl,rfl⟩;go_wp2_with fail
   go_ret2
   have hv:=Hv.out;simp only [List.drop_zero] at hv;have e1:val 10000 xs / 65536=val 10000 Z:=by omega
   have e2:val 10000 xs % 65536=r:=by omega
   refine ⟨_,by rw [e2];rfl,?_,Gr.out⟩;rw [e1,<- eC Za.out];exact Ho.out.trim
  | succ k=>
   obtain rfl:q=(k:Int):=by omega
   rcases H3.out with h3 | ⟨b,off,rfl,hbl,hy⟩
   ·have:=Hn.out;rw [h3] at this;simp at this;omega
   have c1:wr.cell? ⟨b,off+k,none⟩=some (.int .i64 (nth xs k)):=by rw [World.cell?_of_block (w:=w) (gr.block b hbl (by simp)),hy k (by rw [Hn.out];omega)]
   have b1:nth xs k<10000:=Ax.out.nth (by rw [Hn.out];omega);have f1:wr.frozen? ⟨w.heap.size,k,none⟩=false:=rr.frozen _;have c2:wr.cell? ⟨w.heap.size,k,none⟩=some (.int .i64 (nth Z k)):=rr.cell (by omega);have i1:(k:Int)<(n:Int):=by omega
   have Rr:=hid rr;clear hy zl za hv gr rr hq;go_wp2
   go_roundw
   case rel=>
    refine ⟨k,(r*10000+nth xs k) % 65536,_,Z.set k ((r*10000+nth xs k) / 65536),by omega,rfl,rfl,int_eq (by omega),by omega,by rw [List.length_set,Zl.out],Za.out.set (by omega) k,?_,?_,di Gr.out (cI _ _ _ _) (Nat.le_refl _),by simpa using sr⟩
    ·rw [qW _ (by rw [Zl.out];omega),fJ _ _ (by rw [Hn.out];omega),Hv.out];omega
    ·refine (aN.set Rr.out k _).congr λj hj=>?_;by_cases hjk:j=k
     ·subst hjk;rw [kj,pi _ (by rw [Zl.out];omega)];exact int_eq (by omega)
     ·rw [upd_ne _ _ hjk,tR _ _ hjk]
   case measure=>simp [intOf]
theorem rA  (m c0:Nat) (hx:Sl w .i64 v (an 10000 X)) (hlen:(an 10000 X).length<=8796093022208) (hm:m<=65536:=by omega) (hc:c0<=65536:=by omega) :
  Calls prog 96 #[v,.int .i64 m,.int .i64 c0] w (ms w (X*m+c0)):=by
 have:=afp m c0 hx (fg (by omega) _) hm hc hlen
 rwa [dj (by omega)] at this
theorem Kk  (hx:Sl w .i64 v (an 10000 X)) (hlen:(an 10000 X).length<=8796093022208) :
  Calls prog 97 #[v,.int .i64 65536] w (Kj w X):=by
 have:=afq hx (fg (by omega) _) hlen
 rwa [dj (by omega)] at this
theorem afr  (h:(an 10000 X).length<=k) (hm:m<=65536:=by omega) (hc:c0<=65535:=by omega):(an 10000 (X*m+c0)).length<=k+2:=by
 have h1:=jm (b:=10000) X;have h2:=Nat.lt_of_lt_of_le h1 (Nat.pow_le_pow_right (n:=10000) (by omega) h);refine iq (by omega) _ _ ?_;rw [Nat.pow_add];generalize 10000 ^ k=T at *
 have:X*m<=X*65536:=Nat.mul_le_mul_left _ hm;omega
set_option maxHeartbeats 1000000 in
theorem afs  (hx:Sl w .u32 v xs) (ax:All 4294967296 xs) (hlen:xs.length<=1000000:=by omega) :
  Calls prog 61 #[v] w (ms w (val 4294967296 xs)):=by
 obtain ⟨p,cap,rfl,h1,h2,h3⟩:=id hx;have Hx:=hid hx;have Ax:=hid ax;have H3:=hid h3;clear hx ax h3;obtain ⟨n,hn⟩:∃n,xs.length=n:=⟨_,rfl⟩;rw [hn] at hlen h1 ⊢;have Hn:=hid hn;clear hn;go_enter func61,ntmps61
 go_wp2_with fail
 go_loopw [3,4] (λo i wr=>∃(k:Nat) (q:Int),k<=n∧i = .int .i64 q∧q=(k:Int)-1∧Own wr 3 .i64 w.heap.size o (an 10000 (val 4294967296 (xs.drop k)))∧w.grownBy wr none) (λ_ i _=>(intOf i+1).toNat)
 case atStart=>
  refine ⟨n,_,by omega,rfl,rfl,?_,bH _ _⟩;rw [List.drop_of_length_le (by rw [Hn.out];omega)];exact Own.nil _ _ _ _
 case round=>
  obtain ⟨k,q,hk,rfl,hq,ho,gr⟩:=hrel;have Gr:=hid gr;have Ho:=hid ho;cases k with
  | zero=>
   obtain rfl:q = -1:=by omega
   clear ho gr hq;go_wp2_with fail
   go_ret
   exact ⟨_,rfl,by simpa using Ho.out,Gr.out⟩
  | succ k=>
   obtain rfl:q=(k:Int):=by omega
   rcases H3.out with h3 | ⟨b,off,rfl,hbl,hy⟩
   ·have:=Hn.out;rw [h3] at this;simp at this;omega
   have c1:wr.cell? ⟨b,off+k,none⟩=some (.int .u32 (nth xs k)):=by rw [World.cell?_of_block (w:=w) (gr.block b hbl (by simp)),hy k (by rw [Hn.out];omega)]
   have b1:nth xs k<4294967296:=Ax.out.nth (by rw [Hn.out];omega);have i1:(k:Int)<(n:Int):=by omega
   have Hy:=hid hy;obtain ⟨X,hX⟩:∃X,val 4294967296 (xs.drop (k+1))=X:=⟨_,rfl⟩;have HX:=hid hX;rw [hX] at Ho;have Hln:=hid (show (an 10000 X).length<=3*n by
    rw [<- hX];exact Kh (Bd.of (Ax.out.drop (k+1)) (by rw [List.length_drop,Hn.out];omega)))
   clear hX ho gr hy hq;go_wp2_with fail
   refine (rA 65536 (nth xs k / 65536) Ho.out.sl (by have:=Hln.out;omega)).mono ?_;rintro e w2 ⟨v2,rfl,ho2,g2⟩;have Ho2:=hid ho2;have G2:=hid (bf Gr.out g2);have sg:=Gr.out.size;have Hl2:=hid (afr (m:=65536) (c0:=nth xs k / 65536) Hln.out);have c2:w2.cell? ⟨b,off+k,none⟩=some (.int .u32 (nth xs k)):=by rw [World.cell?_of_block (w:=w) (G2.out.block b hbl (by simp)),Hy.out k (by rw [Hn.out];omega)]
   clear ho2 g2 c1;go_wp2_with fail
   refine (rA 65536 (nth xs k % 65536) Ho2.out.sl (by have:=Hl2.out;omega)).mono ?_;rintro e w3 ⟨v3,rfl,ho3,g3⟩;have el:=hid ho3;have G3:=hid (bf G2.out g3);have sg2:=G2.out.size;clear ho3 g3;go_wp2_with fail
   go_roundw
   case rel=>
    refine ⟨k,_,by omega,rfl,rfl,?_,G3.out⟩;rw [fJ _ _ (by rw [Hn.out];omega),HX.out];have e:(X*65536+nth xs k / 65536)*65536+nth xs k % 65536=nth xs k+4294967296*X:=by omega
    rw [<- e];exact el.out.mono (by omega)
   case measure=>simp [intOf]
theorem afu {w':World}{e':TypeId}{k k':IntKind}{B':Nat}{xs ys:List Nat} (h:Own w e k B v xs) (h':Own w' e' k' B' u ys) (hs:w'.heap.size<=B):u.ownBlock=none∨v.ownBlock≠u.ownBlock:=by
 cases hu:u.ownBlock with
 | none=>exact .inl rfl
 | some g=>
  right;intro e;have:=(h.lt g e).1;have:=(h'.lt g hu).2;omega
theorem rB  (h:m<=n) (hb:2<=b:=by omega):(an b m).length<=(an b n).length:=
 iq hb _ _ (Nat.lt_of_le_of_lt h (jm (hb:=hb) n))
theorem afv  (h:0<n):(an 10000 (n / 4294967296)).length<(an 10000 n).length:=by have h1:=jv (b:=10000) (by omega) h;have h2:=rB (b:=10000) (show n / 4294967296<=n / 10000 by omega);rw [h1];simp;omega
theorem afw  (hY:Y=X / 4294967296 ^ j) (h:0<Y):(an 4294967296 X).take j ++ [Y % 4294967296]=(an 4294967296 X).take (j+1)∧j<(an 4294967296 X).length:=by
 have hj:j<(an 4294967296 X).length:=by
  rcases Nat.lt_or_ge j (an 4294967296 X).length with hh | hh
  ·exact hh
  ·have h1:=jm (b:=4294967296) X;have h2:X<4294967296 ^ j:=Nat.lt_of_lt_of_le h1 (Nat.pow_le_pow_right (by omega) hh);rw [Nat.div_eq_of_lt h2] at hY;omega
 refine ⟨?_,hj⟩;rw [JF _ hj,JI (by omega),<- hY]
theorem afx  (hY:0=X / 4294967296 ^ j):(an 4294967296 X).take j=an 4294967296 X:=by
 refine List.take_of_length_le (iq (by omega) _ _ ?_);rcases Nat.lt_or_ge X (4294967296 ^ j) with h | h
 ·exact h
 ·have:=Nat.div_pos h (Nat.pow_pos (by omega));omega
set_option maxHeartbeats 1000000 in
theorem Kl  (hx:Sl w .i64 v (an 10000 X)) (hlen:(an 10000 X).length<=4000000) :
  Calls prog 59 #[v] w (Made 106 .u32 w (an 4294967296 X)):=by
 obtain ⟨p,cap,rfl,-⟩:=id hx;obtain ⟨i0,hi,hz0,hz1,hz2⟩:=info_parts Tryz.infoU;obtain ⟨L,hL⟩:∃L,(an 10000 X).length=L:=⟨_,rfl⟩;have Lx:=hid (show (an 4294967296 X).length<=(an 10000 X).length from iq (by omega) _ _ (Nat.lt_of_lt_of_le (jm (b:=10000) X) (Nat.pow_le_pow_left (by omega) _)));rw [hL] at hx hlen Lx ⊢;have Hx:=hid hx;have HL:=hid hL;clear hx hL;go_enter func59,ntmps59
 go_wp2_with fail
 go_loopw [0,3] (λav o wr=>∃(j Y:Nat),Hid (Y=X / 4294967296 ^ j)∧(an 10000 Y).length<=L∧Sl wr .i64 av (an 10000 Y)∧Own wr 106 .u32 w.heap.size o ((an 4294967296 X).take j)∧w.grownBy wr none) (λav _ _=>lenOf av)
 case atStart=>
  refine ⟨0,X,by show X=_;simp,by rw [HL.out];omega,Hx.out,Own.nil _ _ _ _,bH _ _⟩
 case round=>
  obtain ⟨j,Y,hY,hl,ha,ho,gr⟩:=hrel;obtain ⟨ap,aiB,rfl,-⟩:=id ha;obtain ⟨op,eZ,rfl⟩:=ho.slice;have Ha:=hid ha;have Ho:=hid ho;have Gr:=hid gr;by_cases h0:Y=0
  ·subst h0;clear ha ho gr;have e:=jW 10000;rw [e] at Ha ⊢;rw [afx hY.out] at Ho ⊢;clear e;go_wp2_with fail
   go_ret
   exact ⟨_,rfl,Ho.out,Gr.out⟩
  ·have hp:0<Y:=by omega
   have hl0:0<(an 10000 Y).length:=by have:=gy (b:=10000) (n:=Y);omega
   have Td:=hid (afw hY.out hp);have Dn:=hid (afv hp);have Dm:=hid (show (an 10000 (Y / 65536)).length<=L from Nat.le_trans (rB (Nat.div_le_self _ _)) hl);obtain ⟨LY,zw⟩:∃LY,(an 10000 Y).length=LY:=⟨_,rfl⟩;have HLY:=hid zw;rw [zw] at hl0 hl Ha ⊢;obtain ⟨Z,hZ⟩:∃Z,(an 4294967296 X).take j=Z:=⟨_,rfl⟩;have HZ:=hid hZ;rw [hZ] at Ho ⊢;have zl:Z.length<=L:=by rw [<- hZ,List.length_take];have:=Lx.out;omega
   clear ha ho gr h0 zw hZ;go_wp2_with fail
   refine (Kk Ha.out (by rw [HLY.out];omega)).mono ?_;rintro e w2 ⟨v2,rfl,ho2,g2⟩;have Ho2:=hid ho2;have G2:=hid (bf Gr.out g2);have OO:=hid (Ho.out.grown g2 (.inl rfl));clear ho2 g2;go_wp2_with fail
   refine (Kk Ho2.out.sl (by have:=Dm.out;omega)).mono ?_;rintro e w3 ⟨v3,rfl,ho3,g3⟩;have el:=hid ho3;have G3:=hid (bf G2.out g3);have Km:=hid (OO.out.grown g3 (.inl rfl));clear ho3 g3;have oa:=afu el.out OO.out (Nat.le_refl _);have OB:=hid (show w.heap.size<=w3.heap.size from G3.out.size);have Oa:=hid oa;clear oa;go_wp2_with (at_builtin;refine jD rfl _ _ 26 rfl 106 i0 (.int .u32 0) .u32 underlying26 hi hz0 hz1 rfl w.heap.size (.slice op Z.length eZ) Z (Y % 4294967296) rfl (Km.out.grown (bn _ _ none) (.inl rfl)) w3.heap.size rfl ?c1 (by omega) (by have:=OB.out;simp;omega) ?_;(case c1=>exact (World.cell?_alloc_at _ _ _ _ rfl).trans (by simp;omega));intro v' w4 ho4 g4;have Ho4:=hid ho4;have G4:=hid (ke (v:=.slice op Z.length eZ) g4 (Km.out.grown (bn _ _ none) (.inl rfl)) (bf G3.out (bn _ _ _)));have A4:=hid ((el.out.sl.grown (bn _ _ none) (.inl rfl)).grown g4 Oa.out);clear ho4 g4)
   go_roundw
   case rel=>
    refine ⟨j+1,Y / 4294967296,?_,?_,?_,?_,G4.out⟩
    ·show _=_;rw [hY.out,Nat.pow_succ,Nat.div_div_eq_div_mul]
    ·have:=Dn.out;have:=HLY.out;omega
    ·have e:Y / 65536 / 65536=Y / 4294967296:=by omega
     rw [<- e];exact A4.out
    ·rw [<- Td.out.1,HZ.out];exact Ho4.out
   case measure=>
    obtain ⟨p3,FO,rfl⟩:=el.out.slice;have:=Dn.out;have:=HLY.out;have e:Y / 65536 / 65536=Y / 4294967296:=by omega
    simp only [lenOf,e];omega
def rC (w:World) (r:Int) (e:Ending) (w':World):Prop:=e = .returned (.int .i64 r)∧∃n,w'=w.drewN n
set_option maxHeartbeats 400000 in
theorem afy (p q:Option Addr) (n m cap cap':Nat) (w:World) (h:n<m) :
  Calls prog 109 #[.slice p n cap,.slice q m cap'] w (rC w (-1)):=by
 go_enter func109,ntmps109
 go_wp2
 go_ret
 exact ⟨rfl,0,rfl⟩
set_option maxHeartbeats 400000 in
theorem afz (p q:Option Addr) (n m cap cap':Nat) (w:World) (h:m<n) :
  Calls prog 109 #[.slice p n cap,.slice q m cap'] w (rC w 1):=by
 go_enter func109,ntmps109
 go_wp2
 go_ret
 exact ⟨rfl,0,rfl⟩
set_option maxHeartbeats 400000 in
theorem Kn (p q:Option Addr) (cap cap':Nat) (w:World) :
  Calls prog 109 #[.slice p 0 cap,.slice q 0 cap'] w (rC w 0):=by
 go_enter func109,ntmps109
 go_wp2
 refine wp_loop_rounds 1 ?_;rw [rounds_succ];go_wp2
 go_ret
 exact ⟨rfl,0,rfl⟩
set_option maxHeartbeats 400000 in
theorem afA (b off cap b' off' cap':Nat) (a c:List Nat) (w:World) (heq:a.length=c.length)
  (hca:∀j,j<a.length->w.cell? ⟨b,off+j,none⟩=some (.int .i64 (nth a j))) (hcc:∀j,j<c.length->w.cell? ⟨b',off'+j,none⟩=some (.int .i64 (nth c j))) (all:All 10000 a) (all':All 10000 c) (hlen:a.length<=9223372036854775807:=by omega) :
  Calls prog 109 #[.slice (some ⟨b,off,none⟩) a.length cap,.slice (some ⟨b',off',none⟩) a.length cap'] w (rC w (dq (val 10000 a) (val 10000 c))):=by
 have He:=hid heq;have L1:a.length<=c.length:=by omega
 have L2:c.length<=a.length:=by omega
 have Al:=hid all;have xE:=hid all';clear heq all all';go_enter func109,ntmps109
 go_wp2_with fail
 go_loopw [5] (λi wr=>∃(k n:Nat) (q:Int),k<=a.length∧i = .int .i64 q∧q=(k:Int)-1∧wr=w.drewN n∧a.drop k=c.drop k) (λi _=>(intOf i+1).toNat)
 case atStart=>exact ⟨a.length,0,_,Nat.le_refl _,rfl,rfl,rfl,by rw [List.drop_length,He.out,List.drop_length]⟩
 case round=>
  obtain ⟨k,d,q,hk,rfl,hq,rfl,hdr⟩:=hrel;have HD:=hid hdr;clear hdr;cases k with
  | zero=>
   obtain rfl:q = -1:=by omega
   clear hq;go_wp2
   go_ret
   refine ⟨?_,_,rfl⟩;have:a=c:=by simpa using HD.out
   simp [dq,this]
  | succ k=>
   obtain rfl:q=(k:Int):=by omega
   clear hq;have ka:=hca k (by omega);have kc:=hcc k (by omega);clear hca hcc;have b1:(k:Int)<(a.length:Int):=by omega
   by_cases hne:nth a k=nth c k
   ·have hb:(((nth a k:Nat):Int) != ((nth c k:Nat):Int))=false:=by rw [hne];simp
    have HE:=hid hne;clear hne;go_wp2
    go_quiet (fail)
    go_wp2
    go_roundw
    case rel=>exact ⟨k,_,_,by omega,rfl,rfl,rfl,by rw [qN a,qN c,HE.out,HD.out]⟩
    case measure=>simp [intOf]
   ·have hb:(((nth a k:Nat):Int) != ((nth c k:Nat):Int))=true:=by rw [bne_iff_ne];omega
    go_wp2
    go_quiet (fail)
    go_wp2
    have UQ:((w.drewN d).drewN nq).cell? ⟨b,off+k,none⟩=some (.int .i64 (nth a k)):=ka;have UR:((w.drewN d).drewN nq).cell? ⟨b',off'+k,none⟩=some (.int .i64 (nth c k)):=kc;generalize hw2:(w.drewN d).drewN nq=w2 at *
    have tJ:=hid hw2;clear hw2;have V1:=hid (λh=>lN (tK (b:=10000) (show k<a.length by omega) (show k<c.length by omega) HD.out Al.out h));have V2:=hid (λh=>tL (tK (b:=10000) (show k<c.length by omega) (show k<a.length by omega) HD.out.symm xE.out h));clear ka kc;rcases Nat.lt_or_ge (nth a k) (nth c k) with h | h
    ·have hb2:decide (((nth a k:Nat):Int)<((nth c k:Nat):Int))=true:=decide_eq_true (by omega);go_quiet (fail)
     go_wp2
     go_ret
     obtain rfl:=tJ.out;exact ⟨gT (V1.out h).symm,_,by rw [World.drewN_drewN,World.drewN_drewN]⟩
    ·have hb2:decide (((nth a k:Nat):Int)<((nth c k:Nat):Int))=false:=decide_eq_false (by omega);have h':nth c k<nth a k:=by omega
     go_quiet (fail)
     go_wp2
     go_ret
     obtain rfl:=tJ.out;exact ⟨gT (V2.out h').symm,_,by rw [World.drewN_drewN,World.drewN_drewN]⟩
theorem Ko  (hx:Sl w .i64 v (an 10000 X)) (hy:Sl w .i64 u (an 10000 Y)) :
  Calls prog 109 #[v,u] w (rC w (dq X Y)):=by
 obtain ⟨p,cap,rfl,h1,h2,h3⟩:=hx;obtain ⟨p',cap',rfl,h1',h2',h3'⟩:=hy;rcases Nat.lt_trichotomy (an 10000 X).length (an 10000 Y).length with h | h | h
 ·rw [lN (pf h)];exact afy _ _ _ _ _ _ _ h
 ·rcases h3 with h3 | ⟨b,off,rfl,h4,h5⟩
  ·have hX:X=0:=(zi).1 h3;have hY:Y=0:=by
    rw [h3] at h;exact (gy).1 h.symm
   subst hX;subst hY;rw [xG];exact Kn _ _ _ _ _
  ·rcases h3' with h3' | ⟨b',off',rfl,h4',h5'⟩
   ·have hY:Y=0:=(zi).1 h3';have hX:X=0:=by
     rw [h3'] at h;exact (gy).1 h
    subst hX;subst hY;rw [xG];exact Kn _ _ _ _ _
   ·have q:=afA b off cap b' off' cap' (an 10000 X) (an 10000 Y) w h h5 h5' (fg (by omega) _) (fg (by omega) _);rw [dj (by omega),dj (by omega)] at q;rw [<- h];exact q
 ·rw [tL (pf h)];exact afz _ _ _ _ _ _ _ h
theorem afB  (hx:(an 10000 X).length<=k) (hy:(an 10000 Y).length<=k) (h0:adR 10000 (nth (an 10000 X)) (nth (an 10000 Y)) k=0)
  (hc:k=0∨k-1<(an 10000 X).length∨k-1<(an 10000 Y).length∨0<adR 10000 (nth (an 10000 X)) (nth (an 10000 Y)) (k-1)) :
  pre (eK 10000 (nth (an 10000 X)) (nth (an 10000 Y))) k=an 10000 (X+Y):=by
 have hv:val 10000 (pre (eK 10000 (nth (an 10000 X)) (nth (an 10000 Y))) k)=X+Y:=by have:=qO 10000 (nth (an 10000 X)) (nth (an 10000 Y)) k;rw [h0,fi _ _ hx,fi _ _ hy,dj (by omega),dj (by omega)] at this;omega
 have ha:All 10000 (pre (eK 10000 (nth (an 10000 X)) (nth (an 10000 Y))) k):=gJ (λj _=>tN _ _ _);have ht:jr (pre (eK 10000 (nth (an 10000 X)) (nth (an 10000 Y))) k):=by
  refine FM ha ?_;rw [hv,dW];rcases hc with rfl | hc
  ·exact .inl rfl
  right;by_cases h1:k-1<(an 10000 X).length
  ·have:=xL (b:=10000) (n:=X);rw [show k-1=(an 10000 X).length-1 by omega];omega
  by_cases h2:k-1<(an 10000 Y).length
  ·have:=xL (b:=10000) (n:=Y);rw [show k-1=(an 10000 Y).length-1 by omega];omega
  have h3:0<adR 10000 (nth (an 10000 X)) (nth (an 10000 Y)) (k-1):=by
   rcases hc with hc | hc | hc
   ·exact absurd hc h1
   ·exact absurd hc h2
   ·exact hc
  have:=qO 10000 (nth (an 10000 X)) (nth (an 10000 Y)) (k-1);rw [fi _ _ (by omega),fi _ _ (by omega),dj (by omega),dj (by omega)] at this;have h4:=Nat.mul_le_mul_left (10000 ^ (k-1)) h3;omega
 rw [<- hv,xJ ha ht]
set_option maxHeartbeats 2000000 in
theorem afC  (hx:Sl w .i64 v (an 10000 X)) (hy:Sl w .i64 u (an 10000 Y)) (lx:(an 10000 X).length<=4000000) (ly:(an 10000 Y).length<=4000000) :
  Calls prog 108 #[v,u] w (ms w (X+Y)):=by
 have tp:=hid (λk=>afB (X:=X) (Y:=Y) (k:=k));have ax:=hid (fg (b:=10000) (by omega) X);have ay:=hid (fg (b:=10000) (by omega) Y);obtain ⟨p,cap,rfl,h1,h2,h3⟩:=id hx;obtain ⟨q,dw,rfl,h1',h2',h3'⟩:=id hy;obtain ⟨i0,hi,hz0,hz1,hz2⟩:=info_parts Tryz.infoI;generalize hdx:an 10000 X=xs at *
 generalize hdy:an 10000 Y=ys at *
 obtain ⟨n,hn⟩:∃n,xs.length=n:=⟨_,rfl⟩;obtain ⟨m,hm⟩:∃m,ys.length=m:=⟨_,rfl⟩;rw [hn] at lx h1 ⊢;rw [hm] at ly h1' ⊢;have H3:=hid h3;have H3':=hid h3';have Hn:=hid hn;have Hm:=hid hm;clear h3 h3' hn hm hx hy hdx hdy h2 h2';have Cb:=hid (λk=>xH (b:=10000) (f:=nth xs) (g:=nth ys) (cm (by omega) ax.out) (cm (by omega) ay.out) k);go_enter func108,ntmps108
 go_wp2_with fail
 go_loopw [5,6,7] (λo cv i wr=>∃k:Nat,i = .int .i64 k∧cv = .int .i64 (adR 10000 (nth xs) (nth ys) k:Nat)∧k+adR 10000 (nth xs) (nth ys) k<=n+m+1∧Hid (k=0∨k-1<n∨k-1<m∨0<adR 10000 (nth xs) (nth ys) (k-1))∧Own wr 3 .i64 w.heap.size o (pre (eK 10000 (nth xs) (nth ys)) k)∧w.grownBy wr none) (λ_ _ i _=>(n+m+2-(intOf i).toNat))
 case atStart=>exact ⟨0,rfl,rfl,by simp [adR],.inl rfl,Own.nil _ _ _ _,bH _ _⟩
 case round=>
  obtain ⟨k,rfl,rfl,hk,hco,ho,gr⟩:=hrel;obtain ⟨op,eZ,rfl⟩:=ho.slice;have cb:=Cb.out k;have cb':=Cb.out (k+1);have HC:=hid (show adR 10000 (nth xs) (nth ys) (k+1)=(adR 10000 (nth xs) (nth ys) k+(nth xs k+nth ys k)) / 10000 from rfl);have HD:=hid (show pre (eK 10000 (nth xs) (nth ys)) (k+1)=pre (eK 10000 (nth xs) (nth ys)) k ++ [(adR 10000 (nth xs) (nth ys) k+(nth xs k+nth ys k)) % 10000] from zk _ _);obtain ⟨Z,hZ⟩:∃Z,pre (eK 10000 (nth xs) (nth ys)) k=Z:=⟨_,rfl⟩;have zl:Z.length=k:=by rw [<- hZ,dW]
  rw [hZ] at HD ho ⊢;rw [zl] at ho ⊢;have HZ:=hid hZ;have Ho:=hid ho;have Gr:=hid gr;have Zl:=hid zl;generalize hcr:adR 10000 (nth xs) (nth ys) k=cr at *
  have Hcr:=hid hcr;generalize hcs:adR 10000 (nth xs) (nth ys) (k+1)=cs at *
  have Hcs:=hid hcs;have b1:nth xs k<10000:=cm (by omega) ax.out k;have b2:nth ys k<10000:=cm (by omega) ay.out k;clear hZ ho gr hcr hcs zl;by_cases hx:k<n
  ·rcases H3.out with h3 | ⟨b,off,rfl,hbl,hyx⟩
   ·have:=Hn.out;rw [h3] at this;simp at this;omega
   have c1:wr.cell? ⟨b,off+k,none⟩=some (.int .i64 (nth xs k)):=by rw [World.cell?_of_block (w:=w) (Gr.out.block b hbl (by simp)),hyx k (by rw [Hn.out];omega)]
   clear hyx;by_cases hy:k<m
   ·rcases H3'.out with h3' | ⟨b',off',rfl,nM,hyy⟩
    ·have:=Hm.out;rw [h3'] at this;simp at this;omega
    have c2:wr.cell? ⟨b',off'+k,none⟩=some (.int .i64 (nth ys k)):=by rw [World.cell?_of_block (w:=w) (Gr.out.block b' nM (by simp)),hyy k (by rw [Hm.out];omega)]
    clear hyy;go_wp2_with (at_builtin;refine jD rfl _ _ 53 rfl 3 i0 (.int .i64 0) .i64 underlying53 hi hz0 hz1 rfl w.heap.size (.slice op k eZ) Z ((cr+(nth xs k+nth ys k)) % 10000) rfl (Ho.out.grown (bn _ _ none) (.inl rfl)) wr.heap.size rfl ?c1 (by rw [Zl.out];omega) (by have:=Gr.out.size;simp;omega) ?_;(case c1=>exact (World.cell?_alloc_at _ _ _ _ rfl).trans (by simp;try omega));intro v' w3 ho3 g3;have el:=hid ho3;have G3:=hid (ke (v:=.slice op k eZ) g3 (Ho.out.grown (bn _ _ none) (.inl rfl)) (bf Gr.out (bn _ _ _)));clear ho3 g3)
    go_roundw
    case rel=>
     refine ⟨k+1,by go_num,int_eq (by have:=HC.out;have:=Hcs.out;omega),by rw [Hcs.out];have:=HC.out;omega,.inr (.inl (by omega)),?_,G3.out⟩;rw [HD.out];exact el.out
    case measure=>simp [intOf];omega
   ·have y1:nth ys k=0:=eV ys (h:=(by rw [Hm.out];omega));rw [y1] at HC HD;go_wp2_with (at_builtin;refine jD rfl _ _ 53 rfl 3 i0 (.int .i64 0) .i64 underlying53 hi hz0 hz1 rfl w.heap.size (.slice op k eZ) Z ((cr+(nth xs k+0)) % 10000) rfl (Ho.out.grown (bn _ _ none) (.inl rfl)) wr.heap.size rfl ?c1 (by rw [Zl.out];omega) (by have:=Gr.out.size;simp;omega) ?_;(case c1=>exact (World.cell?_alloc_at _ _ _ _ rfl).trans (by simp;try omega));intro v' w3 ho3 g3;have el:=hid ho3;have G3:=hid (ke (v:=.slice op k eZ) g3 (Ho.out.grown (bn _ _ none) (.inl rfl)) (bf Gr.out (bn _ _ _)));clear ho3 g3)
    go_roundw
    case rel=>
     refine ⟨k+1,by go_num,int_eq (by have:=HC.out;have:=Hcs.out;omega),by rw [Hcs.out];have:=HC.out;omega,.inr (.inl (by omega)),?_,G3.out⟩;rw [HD.out];exact el.out
    case measure=>simp [intOf];omega
  ·have y0:nth xs k=0:=eV xs (h:=(by rw [Hn.out];omega));rw [y0] at HC HD;by_cases hy:k<m
   ·rcases H3'.out with h3' | ⟨b',off',rfl,nM,hyy⟩
    ·have:=Hm.out;rw [h3'] at this;simp at this;omega
    have c2:wr.cell? ⟨b',off'+k,none⟩=some (.int .i64 (nth ys k)):=by rw [World.cell?_of_block (w:=w) (Gr.out.block b' nM (by simp)),hyy k (by rw [Hm.out];omega)]
    clear hyy;go_wp2_with (at_builtin;refine jD rfl _ _ 53 rfl 3 i0 (.int .i64 0) .i64 underlying53 hi hz0 hz1 rfl w.heap.size (.slice op k eZ) Z ((cr+(0+nth ys k)) % 10000) rfl (Ho.out.grown (bn _ _ none) (.inl rfl)) wr.heap.size rfl ?c1 (by rw [Zl.out];omega) (by have:=Gr.out.size;simp;omega) ?_;(case c1=>exact (World.cell?_alloc_at _ _ _ _ rfl).trans (by simp;try omega));intro v' w3 ho3 g3;have el:=hid ho3;have G3:=hid (ke (v:=.slice op k eZ) g3 (Ho.out.grown (bn _ _ none) (.inl rfl)) (bf Gr.out (bn _ _ _)));clear ho3 g3)
    go_roundw
    case rel=>
     refine ⟨k+1,by go_num,int_eq (by have:=HC.out;have:=Hcs.out;omega),by rw [Hcs.out];have:=HC.out;omega,.inr (.inr (.inl (by omega))),?_,G3.out⟩;rw [HD.out];exact el.out
    case measure=>simp [intOf];omega
   ·have y1:nth ys k=0:=eV ys (h:=(by rw [Hm.out];omega));rw [y1] at HC HD;by_cases hcr:cr=0
    ·have hl:Hid (pre (eK 10000 (nth xs) (nth ys)) k=an 10000 (X+Y)):=tp.out k (by rw [Hn.out];omega) (by rw [Hm.out];omega) (by rw [Hcr.out];exact hcr) (by rw [Hn.out,Hm.out];exact hco.out);subst hcr;go_wp2_with fail
     go_ret
     exact ⟨_,rfl,by rw [<- hl.out,HZ.out];exact Ho.out,Gr.out⟩
    ·obtain rfl:cr=1:=by omega
     clear hcr;go_wp2_with (at_builtin;refine jD rfl _ _ 53 rfl 3 i0 (.int .i64 0) .i64 underlying53 hi hz0 hz1 rfl w.heap.size (.slice op k eZ) Z ((1+(0+0)) % 10000) rfl (Ho.out.grown (bn _ _ none) (.inl rfl)) wr.heap.size rfl ?c1 (by rw [Zl.out];omega) (by have:=Gr.out.size;simp;omega) ?_;(case c1=>exact (World.cell?_alloc_at _ _ _ _ rfl).trans (by simp;try omega));intro v' w3 ho3 g3;have el:=hid ho3;have G3:=hid (ke (v:=.slice op k eZ) g3 (Ho.out.grown (bn _ _ none) (.inl rfl)) (bf Gr.out (bn _ _ _)));clear ho3 g3)
     go_roundw
     case rel=>
      refine ⟨k+1,by go_num,int_eq (by have:=HC.out;have:=Hcs.out;omega),by rw [Hcs.out];have:=HC.out;omega,.inr (.inr (.inr (by show 0<adR _ _ _ k;rw [Hcr.out];omega))),?_,G3.out⟩;rw [HD.out];exact el.out
     case measure=>simp [intOf];omega
set_option maxHeartbeats 2000000 in
theorem Kq  (hx:Sl w .i64 v (an 10000 X)) (hy:Sl w .i64 u (an 10000 Y)) (lx:(an 10000 X).length<=4000000) (hle:Y<=X) :
  Calls prog 110 #[v,u] w (ms w (X-Y)):=by
 have ax:=hid (fg (b:=10000) (by omega) X);have ay:=hid (fg (b:=10000) (by omega) Y);have hml:=rB (b:=10000) hle;have Fin:=hid (show val 10000 (pre (gB 10000 (nth (an 10000 X)) (nth (an 10000 Y))) (an 10000 X).length)=X-Y by
  have:=FR ax.out ay.out hml (by rw [dj (by omega),dj (by omega)];exact hle)
  rwa [dj (by omega),dj (by omega)] at this)
 obtain ⟨p,cap,rfl,h1,h2,h3⟩:=id hx;obtain ⟨q,dw,rfl,h1',h2',h3'⟩:=id hy;obtain ⟨i0,hi,hz0,hz1,hz2⟩:=info_parts Tryz.infoI;generalize hdx:an 10000 X=xs at *
 generalize hdy:an 10000 Y=ys at *
 obtain ⟨n,hn⟩:∃n,xs.length=n:=⟨_,rfl⟩;obtain ⟨m,hm⟩:∃m,ys.length=m:=⟨_,rfl⟩;rw [hn] at lx h1 Fin hml ⊢;rw [hm] at hml h1' ⊢;obtain ⟨Z,hZ⟩:∃Z,pre (gB 10000 (nth xs) (nth ys)) n=Z:=⟨_,rfl⟩;have zl:Z.length=n:=by rw [<- hZ,dW]
 have hZn:∀j,j<n->nth Z j=gB 10000 (nth xs) (nth ys) j:=λj hj=>by rw [<- hZ];exact fR _ hj
 have za:All 10000 Z:=by rw [<- hZ];exact gJ (λj _=>xO (cm (by omega) ax.out) j)
 rw [hZ] at Fin;have H3:=hid h3;have H3':=hid h3';have Hn:=hid hn;have Hm:=hid hm;have Zl:=hid zl;have HZn:=hid hZn;have Za:=hid za;clear h3 h3' hn hm hx hy hdx hdy h2 h2' hZ zl hZn za hle;go_enter func110,ntmps110
 go_wp2_with (at_make;refine jd rfl _ _ 53 rfl 3 i0 (.int .i64 0) underlying53 hi hz0 hz1 rfl _ _ _ _ n n rfl rfl (Nat.le_refl _) ?_;intro w1 r1 g1 s1;have R1:=hid r1;have G1:=hid g1;clear r1 g1)
 go_loopw [6,14] (λcv i wr=>∃k:Nat,k<=n∧i = .int .i64 k∧cv = .int .i64 (bM (nth xs) (nth ys) k:Nat)∧aN wr 3 w.heap.size n (lay (λ_=>.int .i64 0) 0 k .i64 Z)∧w.grownBy wr none∧w.heap.size<wr.heap.size) (λ_ i _=>(n-(intOf i).toNat))
 case atStart=>exact ⟨0,by omega,rfl,rfl,by rw [jC];exact R1.out,G1.out,by omega⟩
 case round=>
  obtain ⟨k,hk,rfl,rfl,rr,gr,sr⟩:=hrel;have Gr:=hid gr;by_cases hx:k<n
  ·rcases H3.out with h3 | ⟨b,off,rfl,hbl,hyx⟩
   ·have:=Hn.out;rw [h3] at this;simp at this;omega
   have c1:wr.cell? ⟨b,off+k,none⟩=some (.int .i64 (nth xs k)):=by rw [World.cell?_of_block (w:=w) (gr.block b hbl (by simp)),hyx k (by rw [Hn.out];omega)]
   clear hyx;have f1:wr.frozen? ⟨w.heap.size,k,none⟩=false:=rr.frozen _;have c3:wr.cell? ⟨w.heap.size,k,none⟩=some (.int .i64 0):=by rw [rr.cell (by omega),eG _ _ _]
   have b1:nth xs k<10000:=cm (by omega) ax.out k;have b2:nth ys k<10000:=cm (by omega) ay.out k;have i1:(k:Int)<(n:Int):=by omega
   have HS:=hid (show nth Z k+(nth ys k+bM (nth xs) (nth ys) k)=nth xs k+10000*bM (nth xs) (nth ys) (k+1) by
    rw [HZn.out k hx];exact tQ (cm (by omega) ay.out) k)
   have HC:=hid (show bM (nth xs) (nth ys) (k+1)=if nth xs k<nth ys k+bM (nth xs) (nth ys) k then 1 else 0 from rfl);have hcr:=qU (nth xs) (nth ys) k;generalize bM (nth xs) (nth ys) k=cr at *
   have RR:=hid rr;clear rr gr;by_cases hy:k<m
   ·rcases H3'.out with h3' | ⟨b',off',rfl,nM,hyy⟩
    ·have:=Hm.out;rw [h3'] at this;simp at this;omega
    have c2:wr.cell? ⟨b',off'+k,none⟩=some (.int .i64 (nth ys k)):=by rw [World.cell?_of_block (w:=w) (Gr.out.block b' nM (by simp)),hyy k (by rw [Hm.out];omega)]
    clear hyy;by_cases hs:nth xs k<nth ys k+cr
    ·have hs2:((nth xs k:Nat):Int)-(cr:Int)-((nth ys k:Nat):Int)<0:=by omega
     have HC1:Hid (bM (nth xs) (nth ys) (k+1)=1):=by show _=_;rw [HC.out];exact if_pos hs
     have HE:Hid (nth Z k+(nth ys k+cr)=nth xs k+10000*1):=by show _=_;rw [HS.out,HC1.out]
     go_wp2
     go_roundw
     case rel=>
      refine ⟨k+1,by omega,by go_num,by rw [HC1.out];try rfl,?_,di Gr.out (cI _ _ _ _) (Nat.le_refl _),by simpa using sr⟩;rw [<- iG _ k .i64 Z rfl];refine (RR.out.set k _).congr λj _=>?_;congr 1;exact int_eq (by have:=HE.out;omega)
     case measure=>simp [intOf];omega
    ·have hs2:¬((nth xs k:Nat):Int)-(cr:Int)-((nth ys k:Nat):Int)<0:=by omega
     have HC1:Hid (bM (nth xs) (nth ys) (k+1)=0):=by show _=_;rw [HC.out];exact if_neg hs
     have HE:Hid (nth Z k+(nth ys k+cr)=nth xs k+10000*0):=by show _=_;rw [HS.out,HC1.out]
     go_wp2
     go_roundw
     case rel=>
      refine ⟨k+1,by omega,by go_num,by rw [HC1.out];try rfl,?_,di Gr.out (cI _ _ _ _) (Nat.le_refl _),by simpa using sr⟩;rw [<- iG _ k .i64 Z rfl];refine (RR.out.set k _).congr λj _=>?_;congr 1;exact int_eq (by have:=HE.out;omega)
     case measure=>simp [intOf];omega
   ·have y1:nth ys k=0:=eV ys (h:=(by rw [Hm.out];omega));by_cases hs:nth xs k<nth ys k+cr
    ·have hs2:((nth xs k:Nat):Int)-(cr:Int)<0:=by omega
     have HC1:Hid (bM (nth xs) (nth ys) (k+1)=1):=by show _=_;rw [HC.out];exact if_pos hs
     have HE:Hid (nth Z k+(nth ys k+cr)=nth xs k+10000*1):=by show _=_;rw [HS.out,HC1.out]
     go_wp2
     go_roundw
     case rel=>
      refine ⟨k+1,by omega,by go_num,by rw [HC1.out];try rfl,?_,di Gr.out (cI _ _ _ _) (Nat.le_refl _),by simpa using sr⟩;rw [<- iG _ k .i64 Z rfl];refine (RR.out.set k _).congr λj _=>?_;congr 1;exact int_eq (by have:=HE.out;omega)
     case measure=>simp [intOf];omega
    ·have hs2:¬((nth xs k:Nat):Int)-(cr:Int)<0:=by omega
     have HC1:Hid (bM (nth xs) (nth ys) (k+1)=0):=by show _=_;rw [HC.out];exact if_neg hs
     have HE:Hid (nth Z k+(nth ys k+cr)=nth xs k+10000*0):=by show _=_;rw [HS.out,HC1.out]
     go_wp2
     go_roundw
     case rel=>
      refine ⟨k+1,by omega,by go_num,by rw [HC1.out];try rfl,?_,di Gr.out (cI _ _ _ _) (Nat.le_refl _),by simpa using sr⟩;rw [<- iG _ k .i64 Z rfl];refine (RR.out.set k _).congr λj _=>?_;congr 1;exact int_eq (by have:=HE.out;omega)
     case measure=>simp [intOf];omega
  ·obtain rfl:k=n:=by omega
   have ho:Own wr 3 .i64 w.heap.size (.slice (some ⟨w.heap.size,0,none⟩) k k) Z:=
    .inr ⟨w.heap.size,_,_,by rw [Zl.out],Nat.le_refl _,rr,by rw [Zl.out];omega,by omega,λj hj=>jB _ _ _ (by rw [Zl.out] at hj;exact hj)⟩
   have Ho:=hid ho;clear ho rr gr;go_wp2_with fail
   refine (pD _ _ _ Z _ Ho.out.sl).mono ?_;rintro e w'' ⟨rfl,rfl⟩;go_wp2_with fail
   go_ret
   refine ⟨_,rfl,?_,Gr.out⟩;rw [<- Fin.out,<- eC Za.out];exact Ho.out.trim
theorem afD  (t:Nat) (h:k<xs.length):val b (xs.set k t)+b ^ k*nth xs k=val b xs+b ^ k*t:=by have e1:=gx b xs (k:=k);have e2:=gx b (xs.set k t) (k:=k) (h:=(by rw [List.length_set];omega));rw [qW t h,List.take_set_of_le (Nat.le_refl _)] at e2;rw [fJ b xs h] at e1;rw [e1,e2,Nat.mul_add,Nat.mul_add];omega
theorem afE (b:Nat) (ys:List Nat) (k:Nat):val b (ys.take (k+1))=val b (ys.take k)+b ^ k*nth ys k:=by
 rcases Nat.lt_or_ge k ys.length with h | h
 ·exact jX b ys (h:=h)
 ·rw [List.take_of_length_le (by omega),List.take_of_length_le h,eV ys (h:=h),Nat.mul_zero,Nat.add_zero]
theorem Kr {x V0 s:Nat} (hk:i+k<R.length) (h:val 10000 R+10000 ^ (i+k)*c=V0+10000 ^ i*(x*val 10000 (ys.take k))) (hs:nth R (i+k)+c+x*nth ys k=s) :
  val 10000 (R.set (i+k) (s % 10000))+10000 ^ (i+(k+1))*(s / 10000)=V0+10000 ^ i*(x*val 10000 (ys.take (k+1))):=by
 have e1:=afD (b:=10000) (s % 10000) hk;have e2:=Nat.mod_add_div s 10000;have e3:10000 ^ (i+k)*(s % 10000)+10000 ^ (i+(k+1))*(s / 10000)=10000 ^ (i+k)*s:=by rw [<- Nat.add_assoc,Nat.pow_succ,Nat.mul_assoc,<- Nat.mul_add,e2]
 have e4:10000 ^ (i+k)*s=10000 ^ (i+k)*nth R (i+k)+10000 ^ (i+k)*c+10000 ^ (i+k)*(x*nth ys k):=by rw [<- hs,Nat.mul_add,Nat.mul_add]
 have e5:10000 ^ i*(x*val 10000 (ys.take (k+1)))=10000 ^ i*(x*val 10000 (ys.take k))+10000 ^ (i+k)*(x*nth ys k):=by rw [afE,Nat.mul_add,Nat.mul_add,Nat.pow_add,Nat.mul_assoc,Nat.mul_left_comm x]
 omega
theorem afF  (ax:All 10000 xs) (ay:All 10000 ys) (hi:i<xs.length) (hk:ys.length<=k)
  (h:val 10000 R+10000 ^ (i+k)*c=val 10000 (xs.take i)*val 10000 ys+10000 ^ i*(nth xs i*val 10000 (ys.take k))) (hc:0<c:=by omega):k=ys.length:=by
 rw [List.take_of_length_le hk,<- Nat.mul_assoc,<- Nat.add_mul,<- jX 10000 xs (h:=hi)] at h;have h1:=ff (ax.take (i+1));rw [List.length_take,Nat.min_eq_left (by omega)] at h1;have h2:=ff ay;have h3:val 10000 (xs.take (i+1))*val 10000 ys<10000 ^ (i+1)*10000 ^ ys.length:=Nat.mul_lt_mul'' h1 h2;rw [<- Nat.pow_add] at h3;have h4:10000 ^ (i+k)<=10000 ^ (i+k)*c:=Nat.le_mul_of_pos_right _ hc;have h5:10000 ^ (i+k)<10000 ^ (i+1+ys.length):=by omega
 have:=(Nat.pow_lt_pow_iff_right (a:=10000) (by omega)).1 h5;omega
theorem afG  (hi:i<xs.length) (hk:ys.length<=k)
  (h:val 10000 R+10000 ^ (i+k)*0=val 10000 (xs.take i)*val 10000 ys+10000 ^ i*(nth xs i*val 10000 (ys.take k))):val 10000 R=val 10000 (xs.take (i+1))*val 10000 ys:=by
 rw [List.take_of_length_le hk,<- Nat.mul_assoc,<- Nat.add_mul,<- jX 10000 xs (h:=hi)] at h;simpa using h
theorem zx {g N:Nat}{k:IntKind}{t:Nat} (hl:R.length=N) (h:aN w e g N (λj=>.int k (nth R j))) (hv:v = .int k (t:Int)) (hj:j<N:=by omega) :
  aN (w.setCell ⟨g,j,none⟩ v) e g N (λi=>.int k (nth (R.set j t) i)):=by
 refine (h.set j v).congr λi hi=>?_;by_cases hij:i=j
 ·subst hij;rw [kj,pi _ (by omega),hv]
 ·rw [upd_ne _ _ hij,tR _ _ hij]
set_option maxHeartbeats 2000000 in
theorem afH  (hx:Sl w .i64 v (an 10000 X)) (hy:Sl w .i64 u (an 10000 Y)) (lx:(an 10000 X).length<=4000000) (ly:(an 10000 Y).length<=4000000) :
  Calls prog 60 #[v,u] w (ms w (X*Y)):=by
 have ax:=hid (fg (b:=10000) (by omega) X);have ay:=hid (fg (b:=10000) (by omega) Y);have vx:=hid (dj (b:=10000) (by omega) X);have vy:=hid (dj (b:=10000) (by omega) Y);obtain ⟨p,cap,rfl,h1,h2,h3⟩:=id hx;obtain ⟨q,dw,rfl,h1',h2',h3'⟩:=id hy;obtain ⟨i0,hi,hz0,hz1,hz2⟩:=info_parts Tryz.infoI;generalize hdx:an 10000 X=xs at *
 generalize hdy:an 10000 Y=ys at *
 obtain ⟨n,hn⟩:∃n,xs.length=n:=⟨_,rfl⟩;obtain ⟨m,hm⟩:∃m,ys.length=m:=⟨_,rfl⟩;rw [hn] at lx h1 ⊢;rw [hm] at ly h1' ⊢;have H3:=hid h3;have H3':=hid h3';have Hn:=hid hn;have Hm:=hid hm;clear h3 h3' hn hm hx hy hdx hdy h2 h2';go_enter func60,ntmps60
 go_wp2_with (at_make;refine jd rfl _ _ 53 rfl 3 i0 (.int .i64 0) underlying53 hi hz0 hz1 rfl _ _ _ _ (n+m) (n+m) rfl rfl (Nat.le_refl _) ?_;intro w1 r1 g1 s1;have R1:=hid r1;have G1:=hid g1;clear r1 g1)
 go_loopw [18] (λiv wr=>∃(i:Nat) (R:List Nat),i<=n∧iv = .int .i64 i∧R.length=n+m∧All 10000 R∧val 10000 R=val 10000 (xs.take i)*val 10000 ys∧aN wr 3 w.heap.size (n+m) (λj=>.int .i64 (nth R j))∧w.grownBy wr none∧w.heap.size<wr.heap.size) (λiv _=>(n-(intOf iv).toNat))
 case atStart=>exact ⟨0,List.replicate (n+m) 0,by omega,rfl,by simp,All.no (by omega) _,by simp [lW,val],R1.out.congr λj hj=>by simp [nth,hj],G1.out,by omega⟩
 case round=>
  obtain ⟨i,R,hin,rfl,rl,ra,rv,rr,gr,sr⟩:=hrel;have Rl:=hid rl;have Ra:=hid ra;have Rv:=hid rv;have RR:=hid rr;have Gr:=hid gr;clear rl ra rv rr gr;by_cases hx:i<n
  ·go_wp2_with fail
   go_loopw [7,8] (λcv kv wr=>∃(k c:Nat) (R:List Nat),k<=m+1∧kv = .int .i64 k∧cv = .int .i64 c∧c<10000∧Hid (R.length=n+m)∧Hid (All 10000 R)∧Hid (val 10000 R+10000 ^ (i+k)*c=val 10000 (xs.take i)*val 10000 ys+10000 ^ i*(nth xs i*val 10000 (ys.take k)))∧Hid (aN wr 3 w.heap.size (n+m) (λj=>.int .i64 (nth R j)))∧Hid (w.grownBy wr none)∧w.heap.size<wr.heap.size) (λ_ kv _=>(m+2-(intOf kv).toNat))
   case atStart=>exact ⟨0,0,R,by omega,rfl,rfl,by omega,Rl,Ra,by show _=_;rw [Rv.out];simp [val],RR,Gr,sr⟩
   case round=>
    clear R Rl Ra Rv RR Gr sr;obtain ⟨k,c,R,hk,rfl,rfl,hc,Rl,Ra,Rv,RR,Gr,sr⟩:=hrel;have b0:nth R (i+k)<10000:=cm (by omega) Ra.out _;have bx:nth xs i<10000:=cm (by omega) ax.out _;by_cases hy:k<m
    ·rcases H3.out with h3 | ⟨b,off,rfl,hbl,hyx⟩
     ·have:=Hn.out;rw [h3] at this;simp at this;omega
     have c1:wr.cell? ⟨b,off+i,none⟩=some (.int .i64 (nth xs i)):=by rw [World.cell?_of_block (w:=w) (Gr.out.block b hbl (by simp)),hyx i (by rw [Hn.out];omega)]
     clear hyx;rcases H3'.out with h3' | ⟨b',off',rfl,nM,hyy⟩
     ·have:=Hm.out;rw [h3'] at this;simp at this;omega
     have c2:wr.cell? ⟨b',off'+k,none⟩=some (.int .i64 (nth ys k)):=by rw [World.cell?_of_block (w:=w) (Gr.out.block b' nM (by simp)),hyy k (by rw [Hm.out];omega)]
     clear hyy;have c3:wr.cell? ⟨w.heap.size,i+k,none⟩=some (.int .i64 (nth R (i+k))):=RR.out.cell (by omega);have f1:wr.frozen? ⟨w.heap.size,i+k,none⟩=false:=RR.out.frozen _;have b2:nth ys k<10000:=cm (by omega) ay.out k;have i1:(k:Int)<(m:Int):=by omega
     have i2:(i:Int)<(n:Int):=by omega
     have i3:(i:Int)+(k:Int)<(n:Int)+(m:Int):=by omega
     have HS:=hid (λs=>Kr (s:=s) (by rw [Rl.out];omega) Rv.out);have hp:=Nat.mul_le_mul (show nth xs i<=9999 by omega) (show nth ys k<=9999 by omega);obtain ⟨t,ht⟩:∃t,nth xs i*nth ys k=t:=⟨_,rfl⟩;rw [ht] at hp HS;have ht':((nth xs i:Nat):Int)*((nth ys k:Nat):Int)=(t:Int):=by rw [<- ht,Int.natCast_mul]
     clear ht;go_wp2
     go_quiet (fail)
     have c3':(wr.drewN nq).cell? ⟨w.heap.size,i+k,none⟩=some (.int .i64 (nth R (i+k))):=c3;have f1':(wr.drewN nq).frozen? ⟨w.heap.size,i+k,none⟩=false:=f1;go_wp2
     go_roundw
     case rel=>
      obtain ⟨s,hs⟩:∃s,nth R (i+k)+c+t=s:=⟨_,rfl⟩;refine ⟨k+1,s / 10000,R.set (i+k) (s % 10000),by omega,by go_num,int_eq (by omega),by omega,?_,?_,HS.out s hs,?_,?_,by simpa using sr⟩
      ·show _=_;rw [List.length_set,Rl.out]
      ·exact Ra.out.set (by omega) _
      ·exact zx Rl.out (show aN (wr.drewN nq) _ _ _ _ from RR.out) (int_eq (by omega))
      ·exact di (bf Gr.out (jt _ _ _)) (cI _ _ _ _) (Nat.le_refl _)
     case measure=>simp [intOf] <;> omega
    ·by_cases hc0:c=0
     ·subst hc0;have RD:=hid (afG (by rw [Hn.out];omega) (by rw [Hm.out];omega) Rv.out);go_wp2
      go_roundw
      case rel=>exact ⟨i+1,R,by omega,by go_num,Rl.out,Ra.out,RD.out,RR.out,Gr.out,sr⟩
      case measure=>simp [intOf] <;> omega
     ·have hkm:k=m:=by
       rw [<- Hm.out];exact afF ax.out ay.out (by rw [Hn.out];omega) (by rw [Hm.out];omega) Rv.out
      subst hkm;have y1:nth ys k=0:=eV ys (h:=(by rw [Hm.out];omega));have c3:wr.cell? ⟨w.heap.size,i+k,none⟩=some (.int .i64 (nth R (i+k))):=RR.out.cell (by omega);have f1:wr.frozen? ⟨w.heap.size,i+k,none⟩=false:=RR.out.frozen _;have i3:(i:Int)+(k:Int)<(n:Int)+(k:Int):=by omega
      have HS:=hid (λs=>Kr (s:=s) (by rw [Rl.out];omega) Rv.out);rw [y1,Nat.mul_zero] at HS;clear y1;have hcp:0<c:=by omega
      go_wp2
      go_roundw
      case rel=>
       obtain ⟨s,hs⟩:∃s,nth R (i+k)+c+0=s:=⟨_,rfl⟩;refine ⟨k+1,s / 10000,R.set (i+k) (s % 10000),by omega,by go_num,int_eq (by omega),by omega,?_,?_,HS.out s hs,?_,?_,by simpa using sr⟩
       ·show _=_;rw [List.length_set,Rl.out]
       ·exact Ra.out.set (by omega) _
       ·exact zx Rl.out RR.out (int_eq (by omega))
       ·exact di Gr.out (cI _ _ _ _) (Nat.le_refl _)
      case measure=>simp [intOf] <;> omega
  ·obtain rfl:i=n:=by omega
   have ho:Own wr 3 .i64 w.heap.size (.slice (some ⟨w.heap.size,0,none⟩) (i+m) (i+m)) R:=
    .inr ⟨w.heap.size,_,_,by rw [Rl.out],Nat.le_refl _,RR.out,by rw [Rl.out];omega,by omega,λj hj=>rfl⟩
   have Ho:=hid ho;clear ho;go_wp2_with fail
   refine (pD _ _ _ R _ Ho.out.sl).mono ?_;rintro e w'' ⟨rfl,rfl⟩;go_wp2_with fail
   go_ret
   refine ⟨_,rfl,?_,Gr.out⟩;have e:X*Y=val 10000 R:=by rw [Rv.out,List.take_of_length_le (by rw [Hn.out];omega),vx.out,vy.out]
   rw [e,<- eC Ra.out];exact Ho.out.trim
def afI (w:World) (Q R:Nat) (e:Ending) (w':World):Prop:=
 ∃v u,e = .returned (.tuple #[v,u])∧Own w' 3 .i64 w.heap.size v (an 10000 Q)∧Own w' 3 .i64 w.heap.size u (an 10000 R)∧w.grownBy w' none
theorem Ks (w:World) (e:TypeId) (k:IntKind) (x:Nat) (B:Nat) (hB:B<=w.heap.size):Own (w.alloc (.cells #[.int k x] e)) e k B (.slice (some ⟨w.heap.size,0,none⟩) 1 1) [x]:=by
 refine .inr ⟨w.heap.size,1,λ_=>.int k x,rfl,hB,?_,Nat.le_refl _,by omega,λj hj=>?_⟩
 ·exact aN.made w #[.int k x] e _ (λj hj=>by
   have:j=0:=by simpa using hj
   subst this;rfl)
 ·have:j=0:=by simpa using hj
  subst this;rfl
theorem afJ  (ha:a<10000):trim ([a] ++ an 10000 r)=an 10000 (a+10000*r):=by have h:All 10000 ([a] ++ an 10000 r):=All.cons ha (fg (by omega) _);rw [eC h];simp [val,dj]
theorem afK {lo hi:Nat} (hm:(lo+hi+1) / 2=m) (hl:lo<hi):lo<m∧m<=hi:=by omega
theorem afL (p:Option Addr) (a b c d:Nat):(Value.slice p a b).ownBlock=(Value.slice p c d).ownBlock:=by cases p <;> simp [Value.ownBlock]
theorem afM (Y:Nat):(an 10000 (10000*Y)).length<=(an 10000 Y).length+1:=by refine iq (by omega) _ _ ?_;have:=jm (b:=10000) Y;rw [Nat.pow_succ];omega
theorem afN {V A Z T l:Nat} (h:A=Z*Y+r) (hT:a+10000*r=T) (hl:Y*l<=T) (hV:V=a+10000*A):V=(l+10000*Z)*Y+(T-Y*l):=by obtain ⟨d,rfl⟩:∃d,T=Y*l+d:=⟨T-Y*l,by omega⟩;rw [Nat.add_sub_cancel_left,hV,h,Nat.add_mul,Nat.mul_add,Nat.mul_comm l Y,Nat.mul_assoc];omega
set_option maxHeartbeats 2000000 in
theorem afO  (hx:Sl w .i64 v (an 10000 X)) (hy:Sl w .i64 u (an 10000 Y)) (lx:(an 10000 X).length<=3000000) (ly:(an 10000 Y).length<=3000000) (hY:0<Y) :
  Calls prog 125 #[v,u] w (afI w (X / Y) (X % Y)):=by
 have ax:=hid (fg (b:=10000) (by omega) X);have vx:=hid (dj (b:=10000) (by omega) X);obtain ⟨p,cap,rfl,h1,h2,h3⟩:=id hx;obtain ⟨q,dw,rfl,-⟩:=id hy;obtain ⟨i0,hi,hz0,hz1,hz2⟩:=info_parts Tryz.infoI;generalize hdx:an 10000 X=xs at *
 obtain ⟨n,hn⟩:∃n,xs.length=n:=⟨_,rfl⟩;rw [hn] at lx h1 ⊢;have H3:=hid h3;have Hn:=hid hn;have Hy:=hid hy;clear h3 hn hx hy hdx h2;go_enter func125,ntmps125
 go_wp2_with (at_make;refine jd rfl _ _ 53 rfl 3 i0 (.int .i64 0) underlying53 hi hz0 hz1 rfl _ _ _ _ n n rfl rfl (Nat.le_refl _) ?_;intro w1 r1 g1 s1;have R1:=hid r1;have G1:=hid g1;clear r1 g1)
 go_loopw [7,8] (λrv iv wr=>∃(k r:Nat) (q:Int) (Z:List Nat),k<=n∧iv = .int .i64 q∧q=(k:Int)-1∧Hid (r<Y)∧Hid (Z.length=n)∧Hid (All 10000 Z) ∧
   Hid (val 10000 (xs.drop k)=val 10000 (Z.drop k)*Y+r)∧Hid (Own wr 3 .i64 w.heap.size rv (an 10000 r))∧Hid (aN wr 3 w.heap.size n (λj=>.int .i64 (nth Z j)))∧Hid (w.grownBy wr none)∧w.heap.size<wr.heap.size) (λ_ i _=>(intOf i+1).toNat)
 case atStart=>
  refine ⟨n,0,_,List.replicate n 0,by omega,rfl,rfl,hY,?_,All.no (by omega) _,?_,Own.nil _ _ _ _,R1.out.congr λj hj=>by simp [nth,hj],G1.out,by omega⟩
  ·show _=_;simp
  ·show _=_;rw [List.drop_of_length_le (by rw [Hn.out];omega),List.drop_replicate,lW];simp [val]
 case round=>
  obtain ⟨k,r,q,Z,hk,rfl,hq,Hr,Zl,Za,Hv,Ro,Rr,Gr,sr⟩:=hrel;have Rs:=hid Ro.out.sl;obtain ⟨rp,afP,rfl,-⟩:=id Rs.out;cases k with
  | zero=>
   obtain rfl:q = -1:=by omega
   have ho:Own wr 3 .i64 w.heap.size (.slice (some ⟨w.heap.size,0,none⟩) n n) Z:=
    .inr ⟨w.heap.size,_,_,by rw [Zl.out],Nat.le_refl _,Rr.out,by rw [Zl.out];omega,by omega,λj _=>rfl⟩
   have Ho:=hid ho;clear ho hq;go_wp2_with fail
   refine (pD _ _ _ Z _ Ho.out.sl).mono ?_;rintro e w'' ⟨rfl,rfl⟩;go_wp2_with fail
   go_ret2
   have hv:=Hv.out;simp only [List.drop_zero] at hv;rw [vx.out] at hv;have e1:X / Y=val 10000 Z:=by rw [hv,Nat.mul_comm,Nat.mul_add_div hY,Nat.div_eq_of_lt Hr.out];omega
   have e2:X % Y=r:=by rw [hv,Nat.mul_comm,Nat.mul_add_mod,Nat.mod_eq_of_lt Hr.out]
   refine ⟨_,_,rfl,?_,by rw [e2];exact Ro.out,Gr.out⟩;rw [e1,<- eC Za.out];exact Ho.out.trim
  | succ k=>
   obtain rfl:q=(k:Int):=by omega
   rcases H3.out with h3 | ⟨b,off,rfl,hbl,hyx⟩
   ·have:=Hn.out;rw [h3] at this;simp at this;omega
   have c1:wr.cell? ⟨b,off+k,none⟩=some (.int .i64 (nth xs k)):=by rw [World.cell?_of_block (w:=w) (Gr.out.block b hbl (by simp)),hyx k (by rw [Hn.out];omega)]
   have b1:nth xs k<10000:=ax.out.nth (by rw [Hn.out];omega);have i1:(k:Int)<(n:Int):=by omega
   have OO:=hid (Ks wr 3 .i64 (nth xs k) wr.heap.size (Nat.le_refl _));have lr:=hid (Nat.le_trans (rB (b:=10000) (Nat.le_of_lt Hr.out)) ly);have Kt:=hid (Rs.out.grown (bn wr (.cells #[.int .i64 (nth xs k:Nat)] 3) none) (.inl rfl));have Tr:=hid (afJ (r:=r) b1);clear hyx hq;go_wp2_with (at_builtin;refine Ml rfl _ _ 53 rfl 3 i0 (.int .i64 0) .i64 underlying53 hi hz0 hz1 rfl wr.heap.size (.slice (some ⟨wr.heap.size,0,none⟩) 1 1) [nth xs k] rfl OO.out rp (an 10000 r).length afP (an 10000 r) rfl Kt.out (by have:=lr.out;simp;omega) ?_;intro v' w3 ho3 g3;have el:=hid ho3;have G3:=hid g3;clear ho3 g3)
   have GW3:=hid (ke (v:=.slice (some ⟨wr.heap.size,0,none⟩) 1 1) G3.out (OO.out.mono (show w.heap.size<=_ by omega)) (bf Gr.out (bn _ _ _)));have Rr3:=hid ((Rr.out.grown (bn wr (.cells #[.int .i64 (nth xs k:Nat)] 3) none) (by simp)).grown G3.out (by simp [Value.ownBlock];omega));have s3:w.heap.size<w3.heap.size:=by have:=G3.out.size;simp at this;omega
   obtain ⟨vp,vc,rfl⟩:=el.out.slice;refine (pD _ _ _ _ _ el.out.sl).mono ?_;rintro e w'' ⟨rfl,rfl⟩;obtain ⟨T,hT⟩:∃T,nth xs k+10000*r=T:=⟨_,rfl⟩;have hTl:T<10000*Y:=by have:=Hr.out;omega
   rw [hT] at Tr;have HT:=hid hT;have Va:=hid (λg (hg:(Value.slice vp (an 10000 T).length vc).ownBlock=some g)=>(el.out.lt g ((afL vp _ _ _ _).trans hg)).1);have St:=hid (show Sl w3 .i64 (.slice vp (an 10000 T).length vc) (an 10000 T) by rw [<- Tr.out];exact el.out.sl.trim);rw [Tr.out];clear hT OO Kt Rs Rr G3 el Tr c1;go_wp2_with fail
   go_loopw [9,10] (λlo hi wr=>∃l h:Nat,lo = .int .i64 l∧hi = .int .i64 h∧l<=h∧h<=9999∧Hid (Y*l<=T)∧Hid (T<Y*(h+1))∧Hid (w3.grownBy wr none)) (λlo hi _=>(intOf hi-intOf lo).toNat)
   case atStart=>exact ⟨0,9999,rfl,rfl,by omega,by omega,by show _<=_;omega,by show _<_;omega,bH _ _⟩
   case round=>
    have srO:=sr;obtain ⟨l,h,rfl,rfl,hlh,h99,Hl,Hh,G4⟩:=hrel;have G5:=hid (bf GW3.out G4.out);have Hy5:=hid (Hy.out.grown G5.out (.inl rfl));have St5:=hid (St.out.grown G4.out (.inl rfl));have uC:=hid (Rr3.out.grown G4.out (by simp));have s5:w.heap.size<wr.heap.size:=Nat.lt_of_lt_of_le s3 G4.out.size;by_cases hlt:l<h
    ·obtain ⟨m,hm⟩:∃m,(l+h+1) / 2=m:=⟨_,rfl⟩;obtain ⟨hm1,hm2⟩:=afK hm hlt;have hm':((l:Int)+(h:Int)+1) / 2=(m:Int):=by omega
     have Ha:=hid hm;clear hm;go_wp2_with fail
     refine (rA m 0 Hy5.out (by omega)).mono ?_;rintro e w4 ⟨v4,rfl,ho4,g4⟩;rw [Nat.add_zero] at ho4;have Ho4:=hid ho4;have G6:=hid (bf G4.out g4);have zy:=hid (St5.out.grown g4 (.inl rfl));have sg:=g4.size;clear ho4 g4;go_wp2_with fail
     refine (Ko Ho4.out.sl zy.out).mono ?_;rintro e w5 ⟨rfl,dn,rfl⟩;have G7:=hid (bf G6.out (jt w4 dn none));by_cases hle:Y*m<=T
     ·have hc:dq (Y*m) T<=0:=JL.2 hle;have Hle:=hid hle;clear hle;generalize dq (Y*m) T=cv at *
      go_wp2_with fail
      go_roundw
      case rel=>exact ⟨m,h,rfl,rfl,hm2,h99,Hle.out,Hh.out,G7.out⟩
      case measure=>simp only [intOf];omega
     ·have hc:¬dq (Y*m) T<=0:=λh=>hle (JL.1 h);have Hle:=hid hle;clear hle;generalize dq (Y*m) T=cv at *
      go_wp2_with fail
      go_roundw
      case rel=>exact ⟨l,m-1,rfl,int_eq (by omega),by omega,by omega,Hl.out,by show _<_;rw [show m-1+1=m by omega];have:=Hle.out;omega,G7.out⟩
      case measure=>simp only [intOf];omega
    ·obtain rfl:l=h:=by omega
     have f1:wr.frozen? ⟨w.heap.size,k,none⟩=false:=uC.out.frozen _;have c1:wr.cell? ⟨w.heap.size,k,none⟩=some (.int .i64 (nth Z k)):=uC.out.cell (by omega);have rO:=hid (zx (t:=l) (v:=.int .i64 l) Zl.out uC.out (hj:=(show k<n by omega)) rfl);have G6:=hid (di G5.out (cI wr w.heap.size k (.int .i64 l)) (Nat.le_refl _));have Hy6:=hid (Hy.out.grown G6.out (.inl rfl));have zy:=hid (St5.out.grown (cI wr w.heap.size k (.int .i64 l)) (.inr (λe=>by have:=Va.out _ e;omega)));clear St5 Hy5 uC St;go_wp2_with fail
     have sw:w.heap.size<(wr.setCell { block:=w.heap.size,off:=k } (Value.int IntKind.i64 l)).heap.size:=by simpa using s5
     generalize wr.setCell { block:=w.heap.size,off:=k } (Value.int IntKind.i64 l)=w6 at *
     refine (rA l 0 Hy6.out (by omega)).mono ?_;rintro e w7 ⟨v7,rfl,ho7,g7⟩;rw [Nat.add_zero] at ho7;have Ho7:=hid ho7;have G7:=hid (bf G6.out g7);have St7:=hid (zy.out.grown g7 (.inl rfl));have uP:=hid (rO.out.grown g7 (by simp));have s7:=g7.size;have lT:=hid (show (an 10000 T).length<=4000000 from by
      have e1:=rB (b:=10000) (Nat.le_of_lt hTl);have e2:=afM Y;omega)
     clear ho7 g7;go_wp2_with fail
     refine (Kq St7.out Ho7.out.sl lT.out Hl.out).mono ?_;rintro e w8 ⟨v8,rfl,ho8,g8⟩;have Ho8:=hid ho8;have s8:=g8.size;have G8:=hid (bf G7.out g8);have uQ:=hid (uP.out.grown g8 (by simp));clear ho8 g8;go_wp2_with fail
     go_roundw
     case rel=>
      refine ⟨k,T-Y*l,_,Z.set k l,by omega,rfl,rfl,?_,?_,Za.out.set (by omega) k,?_,Ho8.out.mono (by omega),uQ.out,G8.out,by omega⟩
      ·show _<_;have h1:=Hh.out;have h2:=Hl.out;rw [Nat.mul_add] at h1;omega
      ·show _=_;rw [List.length_set,Zl.out]
      ·show _=_;rw [qW _ (by rw [Zl.out];omega)];exact afN Hv.out HT.out Hl.out (fJ _ _ (by rw [Hn.out];omega))
     case measure=>simp [intOf]
theorem afQ (i:Nat):(an 10000 (2 ^ i)).length<=i+1:=by refine iq (by omega) _ _ ?_;exact Nat.lt_of_lt_of_le (Nat.pow_lt_pow_right (a:=2) (by omega) (Nat.lt_succ_self i)) (Nat.pow_le_pow_left (by omega) _)
set_option maxHeartbeats 1000000 in
theorem afR (n:Nat) (w:World) (hn:n<=1000000):Calls prog 58 #[.int .i64 n] w (ms w (2 ^ n)):=by
 have OO:=hid (Ks w 3 .i64 1 w.heap.size (Nat.le_refl _));have G0:=hid (bn w (.cells #[.int .i64 1] 3) none);go_enter func58,ntmps58
 go_wp2_with fail
 go_loopw [3,4] (λo i wr=>∃k:Nat,k<=n∧i = .int .i64 k∧Own wr 3 .i64 w.heap.size o (an 10000 (2 ^ k))∧w.grownBy wr none) (λ_ i _=>(n-(intOf i).toNat))
 case atStart=>exact ⟨0,by omega,rfl,by rw [Nat.pow_zero,zj (by omega) (by omega)];exact OO.out,G0.out⟩
 case round=>
  obtain ⟨k,hk,rfl,ho,gr⟩:=hrel;have Ho:=hid ho;have Gr:=hid gr;clear ho gr;by_cases hlt:k<n
  ·have hl:=hid (afQ k);go_wp2_with fail
   refine (rA 2 0 Ho.out.sl (by have:=hl.out;omega)).mono ?_;rintro e w4 ⟨v4,rfl,ho4,g4⟩;have Ho4:=hid (ho4.mono Gr.out.size);have G4:=hid (bf Gr.out g4);clear ho4 g4;go_wp2_with fail
   go_roundw
   case rel=>exact ⟨k+1,by omega,by go_num,by rw [Nat.pow_succ];exact Ho4.out,G4.out⟩
   case measure=>simp [intOf];omega
  ·obtain rfl:k=n:=by omega
   go_wp2_with fail
   go_ret
   exact ⟨_,rfl,Ho.out,Gr.out⟩
end Go.Proofs.YtlmanbjkkjfjgaaGreat
