/- Package orreryref01 -/
import Derived.Test.YtbjfgffibepmkaaGreatLimbL
set_option maxRecDepth 100000
namespace Go.Proofs.YtbjfgffibepmkaaGreat
open Go.Proofs.Tryz
open Lib (hid)
open Go.RowKit
variable {w:World}{e:TypeId}{B X Y a b c c0 i j k m n r:Nat}{u v:Value}{R xs ys:List Nat}
theorem WI (b off n cap:Nat) (xs:List Nat) (w:World) (hn:n<=xs.length) (hcap:n<=cap) (hm:cap<=9223372036854775807)
  (hc:∀j,j<xs.length->w.cell? ⟨b,off+j,none⟩=some (.int .i64 (nth xs j))) :
  Calls prog 119 #[.slice (some ⟨b,off,none⟩) n cap] w fun e w'=>e = .returned (.slice (some ⟨b,off,none⟩) (ei xs n) cap)∧w=w':=by
 go_enter func119,ntmps119
 go_wp2
 go_loop [3] (fun v=>∃k:Nat,k<=n∧v = .int .i64 k∧ei xs k=ei xs n) (fun v=>(intOf v).toNat)
 case atStart=>exact ⟨n,by omega,rfl,rfl⟩
 case round=>
  obtain ⟨k,hk,rfl,ht⟩:=hrel
  have HT:=hid ht
  clear ht
  cases k with
  | zero=>
   go_wp2
   go_ret
   exact ⟨by rw [<- HT.out];rfl,rfl⟩
  | succ k=>
   have hcell:=hc k (by omega)
   clear hc
   have hkc:k<=cap:=by omega
   by_cases h0:nth xs k=0
   ·have hb:=Be h0
    have HZ:=hid h0
    clear h0
    go_wp2
    go_round
    case rel=>exact ⟨k,by omega,by go_num,by rw [<- HT.out];simp [ei,HZ.out]⟩
    case measure=>simp [intOf];try omega
   ·have hb:=Bf h0
    go_wp2
    go_ret
    exact ⟨by rw [<- HT.out];simp [ei,h0],rfl⟩
set_option maxHeartbeats 400000 in
theorem WJ (p:Option Addr) (cap:Nat) (w:World) :
  Calls prog 119 #[.slice p 0 cap] w fun e w'=>e = .returned (.slice p 0 cap)∧w=w':=by
 go_enter func119,ntmps119
 go_wp2
 refine wp_loop_rounds 1 ?_
 rw [rounds_succ]
 go_wp2
 go_ret
 exact ⟨rfl,rfl⟩
theorem mF (p:Option Addr) (n cap:Nat) (xs:List Nat) (w:World) (h:Sl w .i64 (.slice p n cap) xs) :
  Calls prog 119 #[.slice p n cap] w fun e w'=>e = .returned (.slice p (trim xs).length cap)∧w=w':=by
 obtain ⟨p',cap',e,h1,h2,h3⟩:=h
 simp only [Value.slice.injEq] at e
 obtain ⟨rfl,rfl,rfl⟩:=e
 rw [ej]
 rcases h3 with rfl | ⟨b,off,rfl,h4,h5⟩
 ·exact WJ _ _ _
 ·exact WI b off xs.length cap xs w (Nat.le_refl _) h1 h2 h5
theorem Own.slice {k:IntKind} (h:Own w e k B v xs):∃p cap,v = .slice p xs.length cap:=by
 obtain ⟨p,cap,rfl,-⟩:=h.sl
 exact ⟨p,cap,rfl⟩
def jZ (w:World) (X:Nat) (e:Ending) (w':World):Prop:=Made 3 .i64 w (am 10000 X) e w'
theorem WK  (hk:xs.length<=k) (h0:chC 10000 (fun j=>nth xs j*m) c0 k=0):val 10000 (pre (gm 10000 (fun j=>nth xs j*m) c0) k)=val 10000 xs*m+c0:=by
 have:=ut 10000 (fun j=>nth xs j*m) c0 k
 rw [h0,val_mul,eG _ _ hk] at this
 omega
set_option maxHeartbeats 1000000 in
theorem WL  (m c0:Nat) (hx:Sl w .i64 v xs) (ax:All 10000 xs) (hm:m<=65536) (hc:c0<=65536) (hlen:xs.length<=8796093022208) :
  Calls prog 117 #[v,.int .i64 m,.int .i64 c0] w (jZ w (val 10000 xs*m+c0)):=by
 obtain ⟨p,cap,rfl,h1,h2,h3⟩:=id hx
 obtain ⟨i0,hi,hz0,hz1,hz2⟩:=info_parts Tryz.infoI
 obtain ⟨n,hn⟩:∃n,xs.length=n:=⟨_,rfl⟩
 have Cb:=hid (fun k=>uq (b:=10000) (m:=65537) (s:=fun j=>nth xs j*m) (c0:=c0) (fun j=>by
  have b1:nth xs j<=9999:=by have:=bE (by omega) ax j;omega
  have:=Nat.mul_le_mul b1 hm
  show nth xs j*m+65537<=_
  omega) k)
 rw [hn] at hlen h1 ⊢
 have Hx:=hid hx
 have Ax:=hid ax
 have H3:=hid h3
 have Hn:=hid hn
 clear hx ax h3 hn
 go_enter func117,ntmps117
 go_wp2_with (at_make;refine gR rfl _ _ 59 rfl 3 i0 (.int .i64 0) underlying59 hi hz0 hz1 rfl _ _ _ _ 0 (n+2) rfl rfl (by omega) ?_;intro w1 r1 g1 s1;have R1:=hid r1;have G1:=hid g1;clear r1 g1)
 go_loopw [2,7,8] (fun cv o i wr=>∃k:Nat,i = .int .i64 k∧cv = .int .i64 (chC 10000 (fun j=>nth xs j*m) c0 k:Nat)∧k+chC 10000 (fun j=>nth xs j*m) c0 k<=n+65537∧Own wr 3 .i64 w.heap.size o (pre (gm 10000 (fun j=>nth xs j*m) c0) k)∧w.grownBy wr none∧w.heap.size<wr.heap.size) (fun cv _ i _=>(n-(intOf i).toNat)*100000+(intOf cv).toNat)
 case atStart=>
  refine ⟨0,rfl,rfl,by show 0+c0<=_;omega,.inr ⟨w.heap.size,n+2,_,rfl,Nat.le_refl _,R1.out,by simp [pre],by omega,fun j hj=>by simp [pre] at hj⟩,G1.out,by omega⟩
 case round=>
  obtain ⟨k,rfl,rfl,hk,ho,gr,sr⟩:=hrel
  have cb:=Cb.out k
  have cb':=Cb.out (k+1)
  have HC:=hid (show chC 10000 (fun j=>nth xs j*m) c0 (k+1)=(chC 10000 (fun j=>nth xs j*m) c0 k+nth xs k*m) / 10000 from rfl)
  have HD:=hid (show pre (gm 10000 (fun j=>nth xs j*m) c0) (k+1)=pre (gm 10000 (fun j=>nth xs j*m) c0) k ++ [(chC 10000 (fun j=>nth xs j*m) c0 k+nth xs k*m) % 10000] from vE _ _)
  obtain ⟨Z,hZ⟩:∃Z,pre (gm 10000 (fun j=>nth xs j*m) c0) k=Z:=⟨_,rfl⟩
  have zl:Z.length=k:=by rw [<- hZ,dh]
  rw [hZ] at HD ho
  have HZ:=hid hZ
  have Ho:=hid ho
  have Gr:=hid gr
  have Zl:=hid zl
  obtain ⟨op,el,rfl⟩:=ho.slice
  rw [zl] at Ho
  generalize hcr:chC 10000 (fun j=>nth xs j*m) c0 k=cr at *
  have Hcr:=hid hcr
  generalize hcs:chC 10000 (fun j=>nth xs j*m) c0 (k+1)=cs at *
  have Hcs:=hid hcs
  clear hZ ho gr hcr hcs
  rw [zl]
  clear zl
  by_cases hlt:k<n
  ·rcases H3.out with h3 | ⟨b,off,rfl,hbl,hy⟩
   ·have:=Hn.out;rw [h3] at this;simp at this;omega
   have c1:wr.cell? ⟨b,off+k,none⟩=some (.int .i64 (nth xs k)):=by
    rw [World.cell?_of_block (w:=w) (Gr.out.block b hbl (by simp)),hy k (by rw [Hn.out];omega)]
   clear hy
   have b1:nth xs k<10000:=Ax.out.nth (by rw [Hn.out];omega)
   have b2:nth xs k*m<=655350000:=by have:=Nat.mul_le_mul (show nth xs k<=9999 by omega) hm;omega
   obtain ⟨t,ht⟩:∃t,nth xs k*m=t:=⟨_,rfl⟩
   rw [ht] at HC HD b2
   have ht':((nth xs k:Nat):Int)*(m:Int)=(t:Int):=by rw [<- ht,Int.natCast_mul]
   clear ht
   go_wp2_with (at_builtin;refine ir rfl _ _ 59 rfl 3 i0 (.int .i64 0) .i64 underlying59 hi hz0 hz1 rfl w.heap.size (.slice op k el) Z ((cr+t) % 10000) rfl (Ho.out.grown (bg _ _ none) (.inl rfl)) wr.heap.size rfl ?c1 (by rw [Zl.out];omega) (by simp;omega) ?_;(case c1=>exact (World.cell?_alloc_at _ _ _ _ rfl).trans (by simp));intro v' w3 ho3 g3;have du:=hid ho3;have G3:=hid (iQ (v:=.slice op k el) g3 (Ho.out.grown (bg _ _ none) (.inl rfl)) (aR Gr.out (bg _ _ _)));have s3:=g3.size;clear ho3 g3)
   go_roundw
   case rel=>exact ⟨k+1,by go_num,int_eq (by rw [Hcs.out,HC.out];omega),by rw [Hcs.out];omega,by rw [HD.out];exact du.out,G3.out,by simp at s3;omega⟩
   case measure=>
    have h:=HC.out
    have h2:(((cr:Int)+(t:Int)) / 10000)=((cs:Nat):Int):=by omega
    rw [h2]
    simp only [intOf]
    omega
  ·have y0:nth xs k=0:=eh xs (h:=(by rw [Hn.out];omega))
   rw [y0] at HC HD
   have hC:=HC.out
   clear y0
   by_cases hcr:cr=0
   ·subst hcr
    go_wp2_with fail
    refine (mF _ _ _ Z _ Ho.out.sl).mono ?_
    rintro e w' ⟨rfl,rfl⟩
    go_wp2_with fail
    go_ret
    have e:=WK (m:=m) (c0:=c0) (by rw [Hn.out];omega) Hcr.out
    rw [HZ.out] at e
    have az:All 10000 Z:=by rw [<- HZ.out];exact fN (fun j _=>ur _ _ _)
    refine ⟨_,rfl,?_,Gr.out⟩
    rw [<- e,<- dH az]
    exact (Zl.out▸Ho.out:Own wr 3 .i64 w.heap.size (.slice op Z.length el) Z).trim
   ·have hcp:0<cr:=by omega
    go_wp2_with (at_builtin;refine ir rfl _ _ 59 rfl 3 i0 (.int .i64 0) .i64 underlying59 hi hz0 hz1 rfl w.heap.size (.slice op k el) Z (cr % 10000) rfl (Ho.out.grown (bg _ _ none) (.inl rfl)) wr.heap.size rfl ?c1 (by rw [Zl.out];omega) (by simp;omega) ?_;(case c1=>exact (World.cell?_alloc_at _ _ _ _ rfl).trans (by simp));intro v' w3 ho3 g3;have du:=hid ho3;have G3:=hid (iQ (v:=.slice op k el) g3 (Ho.out.grown (bg _ _ none) (.inl rfl)) (aR Gr.out (bg _ _ _)));have s3:=g3.size;clear ho3 g3)
    go_roundw
    case rel=>exact ⟨k+1,by go_num,int_eq (by rw [Hcs.out,HC.out];omega),by rw [Hcs.out];omega,by rw [HD.out];simpa using du.out,G3.out,by simp at s3;omega⟩
    case measure=>simp only [intOf];omega
theorem Ek  (h:Bd X k):(am 10000 X).length<=3*k:=by
 refine gl (by omega) _ X ?_
 rw [Nat.pow_mul]
 exact Nat.lt_of_lt_of_le h (Nat.pow_le_pow_left (by omega) k)
def El (w:World) (X:Nat) (e:Ending) (w':World):Prop:=
 ∃v,e = .returned (.tuple #[v,.int .i64 ((X % 65536:Nat):Int)])∧Own w' 3 .i64 w.heap.size v (am 10000 (X / 65536))∧w.grownBy w' none
set_option maxHeartbeats 1000000 in
theorem WM  (hx:Sl w .i64 v xs) (ax:All 10000 xs) (hlen:xs.length<=8796093022208) :
  Calls prog 118 #[v,.int .i64 65536] w (El w (val 10000 xs)):=by
 obtain ⟨p,cap,rfl,h1,h2,h3⟩:=id hx
 obtain ⟨i0,hi,hz0,hz1,hz2⟩:=info_parts Tryz.infoI
 have Hx:=hid hx
 have Ax:=hid ax
 have H3:=hid h3
 clear hx ax h3
 obtain ⟨n,hn⟩:∃n,xs.length=n:=⟨_,rfl⟩
 rw [hn] at hlen h1 ⊢
 have Hn:=hid hn
 clear hn
 go_enter func118,ntmps118
 go_wp2_with (at_make;refine gR rfl _ _ 59 rfl 3 i0 (.int .i64 0) underlying59 hi hz0 hz1 rfl _ _ _ _ n n rfl rfl (Nat.le_refl _) ?_;intro w1 r1 g1 s1;have R1:=hid r1;have G1:=hid g1;clear r1 g1)
 go_loopw [7,8] (fun cv i wr=>∃(k r:Nat) (q:Int) (Z:List Nat),k<=n∧i = .int .i64 q∧q=(k:Int)-1∧cv = .int .i64 r∧r<65536∧Z.length=n∧All 10000 Z ∧
   val 10000 (xs.drop k)=val 10000 (Z.drop k)*65536+r∧aJ wr 3 w.heap.size n (fun j=>.int .i64 (nth Z j))∧w.grownBy wr none∧w.heap.size<wr.heap.size) (fun _ i _=>(intOf i+1).toNat)
 case atStart=>
  refine ⟨n,0,_,List.replicate n 0,by omega,rfl,rfl,rfl,by omega,by simp,All.kT (by omega) _,?_,R1.out.congr fun j hj=>by simp [nth,hj],G1.out,by omega⟩
  rw [List.drop_of_length_le (by rw [Hn.out];omega),List.drop_replicate,jQ]
  simp [val]
 case round=>
  obtain ⟨k,r,q,Z,hk,rfl,hq,rfl,hr,zl,za,hv,rr,gr,sr⟩:=hrel
  have Zl:=hid zl
  have Za:=hid za
  have Hv:=hid hv
  have Gr:=hid gr
  cases k with
  | zero=>
   obtain rfl:q = -1:=by omega
   have ho:Own wr 3 .i64 w.heap.size (.slice (some ⟨w.heap.size,0,none⟩) n n) Z:=
    .inr ⟨w.heap.size,_,_,by rw [zl],Nat.le_refl _,rr,by omega,by omega,fun j _=>rfl⟩
   have Ho:=hid ho
   clear ho zl za hv gr rr hq
   go_wp2_with fail
   refine (mF _ _ _ Z _ Ho.out.sl).mono ?_
   rintro e w'' ⟨rfl,rfl⟩
   go_wp2_with fail
   go_ret2
   have hv:=Hv.out
   simp only [List.drop_zero] at hv
   have e1:val 10000 xs / 65536=val 10000 Z:=by omega
   have e2:val 10000 xs % 65536=r:=by omega
   refine ⟨_,by rw [e2];rfl,?_,Gr.out⟩
   rw [e1,<- dH Za.out]
   exact Ho.out.trim
  | succ k=>
   obtain rfl:q=(k:Int):=by omega
   rcases H3.out with h3 | ⟨b,off,rfl,hbl,hy⟩
   ·have:=Hn.out;rw [h3] at this;simp at this;omega
   have c1:wr.cell? ⟨b,off+k,none⟩=some (.int .i64 (nth xs k)):=by
    rw [World.cell?_of_block (w:=w) (gr.block b hbl (by simp)),hy k (by rw [Hn.out];omega)]
   have b1:nth xs k<10000:=Ax.out.nth (by rw [Hn.out];omega)
   have f1:wr.frozen? ⟨w.heap.size,k,none⟩=false:=rr.frozen _
   have c2:wr.cell? ⟨w.heap.size,k,none⟩=some (.int .i64 (nth Z k)):=rr.cell (by omega)
   have i1:(k:Int)<(n:Int):=by omega
   have Rr:=hid rr
   clear hy zl za hv gr rr hq
   go_wp2
   go_roundw
   case rel=>
    refine ⟨k,(r*10000+nth xs k) % 65536,_,Z.set k ((r*10000+nth xs k) / 65536),by omega,rfl,rfl,int_eq (by omega),by omega,by rw [List.length_set,Zl.out],Za.out.set (by omega) k,?_,?_,cK Gr.out (bV _ _ _ _) (Nat.le_refl _),by simpa using sr⟩
    ·rw [nY _ (by rw [Zl.out];omega),fa _ _ (by rw [Hn.out];omega),Hv.out]
     omega
    ·refine (aJ.set Rr.out k _).congr fun j hj=>?_
     by_cases hjk:j=k
     ·subst hjk
      rw [iZ,ms _ (by rw [Zl.out];omega)]
      exact int_eq (by omega)
     ·rw [upd_ne _ _ hjk,qL _ _ hjk]
   case measure=>simp [intOf]
theorem oC  (m c0:Nat) (hx:Sl w .i64 v (am 10000 X)) (hlen:(am 10000 X).length<=8796093022208) (hm:m<=65536:=by omega) (hc:c0<=65536:=by omega) :
  Calls prog 117 #[v,.int .i64 m,.int .i64 c0] w (jZ w (X*m+c0)):=by
 have:=WL m c0 hx (eC (by omega) _) hm hc hlen
 rwa [cN (by omega)] at this
theorem Em  (hx:Sl w .i64 v (am 10000 X)) (hlen:(am 10000 X).length<=8796093022208) :
  Calls prog 118 #[v,.int .i64 65536] w (El w X):=by
 have:=WM hx (eC (by omega) _) hlen
 rwa [cN (by omega)] at this
theorem WN  (h:(am 10000 X).length<=k) (hm:m<=65536:=by omega) (hc:c0<=65535:=by omega):(am 10000 (X*m+c0)).length<=k+2:=by
 have h1:=hH (b:=10000) X
 have h2:=Nat.lt_of_lt_of_le h1 (Nat.pow_le_pow_right (n:=10000) (by omega) h)
 refine gl (by omega) _ _ ?_
 rw [Nat.pow_add]
 generalize 10000 ^ k=T at *
 have:X*m<=X*65536:=Nat.mul_le_mul_left _ hm
 omega
set_option maxHeartbeats 1000000 in
theorem WO  (hx:Sl w .u32 v xs) (ax:All 4294967296 xs) (hlen:xs.length<=1000000:=by omega) :
  Calls prog 77 #[v] w (jZ w (val 4294967296 xs)):=by
 obtain ⟨p,cap,rfl,h1,h2,h3⟩:=id hx
 have Hx:=hid hx
 have Ax:=hid ax
 have H3:=hid h3
 clear hx ax h3
 obtain ⟨n,hn⟩:∃n,xs.length=n:=⟨_,rfl⟩
 rw [hn] at hlen h1 ⊢
 have Hn:=hid hn
 clear hn
 go_enter func77,ntmps77
 go_wp2_with fail
 go_loopw [3,4] (fun o i wr=>∃(k:Nat) (q:Int),k<=n∧i = .int .i64 q∧q=(k:Int)-1∧Own wr 3 .i64 w.heap.size o (am 10000 (val 4294967296 (xs.drop k)))∧w.grownBy wr none) (fun _ i _=>(intOf i+1).toNat)
 case atStart=>
  refine ⟨n,_,by omega,rfl,rfl,?_,bt _ _⟩
  rw [List.drop_of_length_le (by rw [Hn.out];omega)]
  exact Own.nil _ _ _ _
 case round=>
  obtain ⟨k,q,hk,rfl,hq,ho,gr⟩:=hrel
  have Gr:=hid gr
  have Ho:=hid ho
  cases k with
  | zero=>
   obtain rfl:q = -1:=by omega
   clear ho gr hq
   go_wp2_with fail
   go_ret
   exact ⟨_,rfl,by simpa using Ho.out,Gr.out⟩
  | succ k=>
   obtain rfl:q=(k:Int):=by omega
   rcases H3.out with h3 | ⟨b,off,rfl,hbl,hy⟩
   ·have:=Hn.out;rw [h3] at this;simp at this;omega
   have c1:wr.cell? ⟨b,off+k,none⟩=some (.int .u32 (nth xs k)):=by
    rw [World.cell?_of_block (w:=w) (gr.block b hbl (by simp)),hy k (by rw [Hn.out];omega)]
   have b1:nth xs k<4294967296:=Ax.out.nth (by rw [Hn.out];omega)
   have i1:(k:Int)<(n:Int):=by omega
   have Hy:=hid hy
   obtain ⟨X,hX⟩:∃X,val 4294967296 (xs.drop (k+1))=X:=⟨_,rfl⟩
   have HX:=hid hX
   rw [hX] at Ho
   have Hln:=hid (show (am 10000 X).length<=3*n by
    rw [<- hX]
    exact Ek (Bd.of (Ax.out.drop (k+1)) (by rw [List.length_drop,Hn.out];omega)))
   clear hX ho gr hy hq
   go_wp2_with fail
   refine (oC 65536 (nth xs k / 65536) Ho.out.sl (by have:=Hln.out;omega)).mono ?_
   rintro e w2 ⟨v2,rfl,ho2,g2⟩
   have Ho2:=hid ho2
   have G2:=hid (aR Gr.out g2)
   have sg:=Gr.out.size
   have Hl2:=hid (WN (m:=65536) (c0:=nth xs k / 65536) Hln.out)
   have c2:w2.cell? ⟨b,off+k,none⟩=some (.int .u32 (nth xs k)):=by
    rw [World.cell?_of_block (w:=w) (G2.out.block b hbl (by simp)),Hy.out k (by rw [Hn.out];omega)]
   clear ho2 g2 c1
   go_wp2_with fail
   refine (oC 65536 (nth xs k % 65536) Ho2.out.sl (by have:=Hl2.out;omega)).mono ?_
   rintro e w3 ⟨v3,rfl,ho3,g3⟩
   have du:=hid ho3
   have G3:=hid (aR G2.out g3)
   have sg2:=G2.out.size
   clear ho3 g3
   go_wp2_with fail
   go_roundw
   case rel=>
    refine ⟨k,_,by omega,rfl,rfl,?_,G3.out⟩
    rw [fa _ _ (by rw [Hn.out];omega),HX.out]
    have e:(X*65536+nth xs k / 65536)*65536+nth xs k % 65536=nth xs k+4294967296*X:=by omega
    rw [<- e]
    exact du.out.mono (by omega)
   case measure=>simp [intOf]
theorem WQ {w':World}{e':TypeId}{k k':IntKind}{B':Nat}{xs ys:List Nat} (h:Own w e k B v xs) (h':Own w' e' k' B' u ys) (hs:w'.heap.size<=B):u.ownBlock=none∨v.ownBlock≠u.ownBlock:=by
 cases hu:u.ownBlock with
 | none=>exact .inl rfl
 | some g=>
  right
  intro e
  have:=(h.lt g e).1
  have:=(h'.lt g hu).2
  omega
theorem oE  (h:m<=n) (hb:2<=b:=by omega):(am b m).length<=(am b n).length:=
 gl hb _ _ (Nat.lt_of_le_of_lt h (hH (hb:=hb) n))
theorem WR  (h:0<n):(am 10000 (n / 4294967296)).length<(am 10000 n).length:=by
 have h1:=ik (b:=10000) (by omega) h
 have h2:=oE (b:=10000) (show n / 4294967296<=n / 10000 by omega)
 rw [h1]
 simp
 omega
theorem WS  (hY:Y=X / 4294967296 ^ j) (h:0<Y):(am 4294967296 X).take j ++ [Y % 4294967296]=(am 4294967296 X).take (j+1)∧j<(am 4294967296 X).length:=by
 have hj:j<(am 4294967296 X).length:=by
  rcases Nat.lt_or_ge j (am 4294967296 X).length with hh | hh
  ·exact hh
  ·have h1:=hH (b:=4294967296) X
   have h2:X<4294967296 ^ j:=Nat.lt_of_lt_of_le h1 (Nat.pow_le_pow_right (by omega) hh)
   rw [Nat.div_eq_of_lt h2] at hY
   omega
 refine ⟨?_,hj⟩
 rw [DQ _ hj,DT (by omega),<- hY]
theorem WT  (hY:0=X / 4294967296 ^ j):(am 4294967296 X).take j=am 4294967296 X:=by
 refine List.take_of_length_le (gl (by omega) _ _ ?_)
 rcases Nat.lt_or_ge X (4294967296 ^ j) with h | h
 ·exact h
 ·have:=Nat.div_pos h (Nat.pow_pos (by omega))
  omega
set_option maxHeartbeats 1000000 in
theorem En  (hx:Sl w .i64 v (am 10000 X)) (hlen:(am 10000 X).length<=4000000) :
  Calls prog 75 #[v] w (Made 119 .u32 w (am 4294967296 X)):=by
 obtain ⟨p,cap,rfl,-⟩:=id hx
 obtain ⟨i0,hi,hz0,hz1,hz2⟩:=info_parts Tryz.infoU
 obtain ⟨L,hL⟩:∃L,(am 10000 X).length=L:=⟨_,rfl⟩
 have Lx:=hid (show (am 4294967296 X).length<=(am 10000 X).length from gl (by omega) _ _ (Nat.lt_of_lt_of_le (hH (b:=10000) X) (Nat.pow_le_pow_left (by omega) _)))
 rw [hL] at hx hlen Lx ⊢
 have Hx:=hid hx
 have HL:=hid hL
 clear hx hL
 go_enter func75,ntmps75
 go_wp2_with fail
 go_loopw [0,3] (fun av o wr=>∃(j Y:Nat),Hid (Y=X / 4294967296 ^ j)∧(am 10000 Y).length<=L∧Sl wr .i64 av (am 10000 Y)∧Own wr 119 .u32 w.heap.size o ((am 4294967296 X).take j)∧w.grownBy wr none) (fun av _ _=>lenOf av)
 case atStart=>
  refine ⟨0,X,by show X=_;simp,by rw [HL.out];omega,Hx.out,Own.nil _ _ _ _,bt _ _⟩
 case round=>
  obtain ⟨j,Y,hY,hl,ha,ho,gr⟩:=hrel
  obtain ⟨ap,aaB,rfl,-⟩:=id ha
  obtain ⟨op,el,rfl⟩:=ho.slice
  have Ha:=hid ha
  have Ho:=hid ho
  have Gr:=hid gr
  by_cases h0:Y=0
  ·subst h0
   clear ha ho gr
   have e:=iM 10000
   rw [e] at Ha ⊢
   rw [WT hY.out] at Ho ⊢
   clear e
   go_wp2_with fail
   go_ret
   exact ⟨_,rfl,Ho.out,Gr.out⟩
  ·have hp:0<Y:=by omega
   have hl0:0<(am 10000 Y).length:=by
    have:=fz (b:=10000) (n:=Y)
    omega
   have Td:=hid (WS hY.out hp)
   have Dn:=hid (WR hp)
   have Dm:=hid (show (am 10000 (Y / 65536)).length<=L from Nat.le_trans (oE (Nat.div_le_self _ _)) hl)
   obtain ⟨LY,vM⟩:∃LY,(am 10000 Y).length=LY:=⟨_,rfl⟩
   have HLY:=hid vM
   rw [vM] at hl0 hl Ha ⊢
   obtain ⟨Z,hZ⟩:∃Z,(am 4294967296 X).take j=Z:=⟨_,rfl⟩
   have HZ:=hid hZ
   rw [hZ] at Ho ⊢
   have zl:Z.length<=L:=by
    rw [<- hZ,List.length_take]
    have:=Lx.out
    omega
   clear ha ho gr h0 vM hZ
   go_wp2_with fail
   refine (Em Ha.out (by rw [HLY.out];omega)).mono ?_
   rintro e w2 ⟨v2,rfl,ho2,g2⟩
   have Ho2:=hid ho2
   have G2:=hid (aR Gr.out g2)
   have OO:=hid (Ho.out.grown g2 (.inl rfl))
   clear ho2 g2
   go_wp2_with fail
   refine (Em Ho2.out.sl (by have:=Dm.out;omega)).mono ?_
   rintro e w3 ⟨v3,rfl,ho3,g3⟩
   have du:=hid ho3
   have G3:=hid (aR G2.out g3)
   have Eo:=hid (OO.out.grown g3 (.inl rfl))
   clear ho3 g3
   have oa:=WQ du.out OO.out (Nat.le_refl _)
   have OB:=hid (show w.heap.size<=w3.heap.size from G3.out.size)
   have Oa:=hid oa
   clear oa
   go_wp2_with (at_builtin;refine ir rfl _ _ 25 rfl 119 i0 (.int .u32 0) .u32 underlying25 hi hz0 hz1 rfl w.heap.size (.slice op Z.length el) Z (Y % 4294967296) rfl (Eo.out.grown (bg _ _ none) (.inl rfl)) w3.heap.size rfl ?c1 (by omega) (by have:=OB.out;simp;omega) ?_;(case c1=>exact (World.cell?_alloc_at _ _ _ _ rfl).trans (by simp;omega));intro v' w4 ho4 g4;have Ho4:=hid ho4;have G4:=hid (iQ (v:=.slice op Z.length el) g4 (Eo.out.grown (bg _ _ none) (.inl rfl)) (aR G3.out (bg _ _ _)));have A4:=hid ((du.out.sl.grown (bg _ _ none) (.inl rfl)).grown g4 Oa.out);clear ho4 g4)
   go_roundw
   case rel=>
    refine ⟨j+1,Y / 4294967296,?_,?_,?_,?_,G4.out⟩
    ·show _=_
     rw [hY.out,Nat.pow_succ,Nat.div_div_eq_div_mul]
    ·have:=Dn.out;have:=HLY.out;omega
    ·have e:Y / 65536 / 65536=Y / 4294967296:=by omega
     rw [<- e];exact A4.out
    ·rw [<- Td.out.1,HZ.out];exact Ho4.out
   case measure=>
    obtain ⟨p3,Bm,rfl⟩:=du.out.slice
    have:=Dn.out
    have:=HLY.out
    have e:Y / 65536 / 65536=Y / 4294967296:=by omega
    simp only [lenOf,e]
    omega
def oG (w:World) (r:Int) (e:Ending) (w':World):Prop:=e = .returned (.int .i64 r)∧∃n,w'=w.drewN n
set_option maxHeartbeats 400000 in
theorem WU (p q:Option Addr) (n m cap cap':Nat) (w:World) (h:n<m) :
  Calls prog 128 #[.slice p n cap,.slice q m cap'] w (oG w (-1)):=by
 go_enter func128,ntmps128
 go_wp2
 go_ret
 exact ⟨rfl,0,rfl⟩
set_option maxHeartbeats 400000 in
theorem WW (p q:Option Addr) (n m cap cap':Nat) (w:World) (h:m<n) :
  Calls prog 128 #[.slice p n cap,.slice q m cap'] w (oG w 1):=by
 go_enter func128,ntmps128
 go_wp2
 go_ret
 exact ⟨rfl,0,rfl⟩
set_option maxHeartbeats 400000 in
theorem Ep (p q:Option Addr) (cap cap':Nat) (w:World) :
  Calls prog 128 #[.slice p 0 cap,.slice q 0 cap'] w (oG w 0):=by
 go_enter func128,ntmps128
 go_wp2
 refine wp_loop_rounds 1 ?_
 rw [rounds_succ]
 go_wp2
 go_ret
 exact ⟨rfl,0,rfl⟩
set_option maxHeartbeats 400000 in
theorem WX (b off cap b' off' cap':Nat) (a c:List Nat) (w:World) (heq:a.length=c.length)
  (hca:∀j,j<a.length->w.cell? ⟨b,off+j,none⟩=some (.int .i64 (nth a j))) (hcc:∀j,j<c.length->w.cell? ⟨b',off'+j,none⟩=some (.int .i64 (nth c j))) (all:All 10000 a) (all':All 10000 c) (hlen:a.length<=9223372036854775807:=by omega) :
  Calls prog 128 #[.slice (some ⟨b,off,none⟩) a.length cap,.slice (some ⟨b',off',none⟩) a.length cap'] w (oG w (cT (val 10000 a) (val 10000 c))):=by
 have He:=hid heq
 have L1:a.length<=c.length:=by omega
 have L2:c.length<=a.length:=by omega
 have Al:=hid all
 have uf:=hid all'
 clear heq all all'
 go_enter func128,ntmps128
 go_wp2_with fail
 go_loopw [5] (fun i wr=>∃(k n:Nat) (q:Int),k<=a.length∧i = .int .i64 q∧q=(k:Int)-1∧wr=w.drewN n∧a.drop k=c.drop k) (fun i _=>(intOf i+1).toNat)
 case atStart=>exact ⟨a.length,0,_,Nat.le_refl _,rfl,rfl,rfl,by rw [List.drop_length,He.out,List.drop_length]⟩
 case round=>
  obtain ⟨k,d,q,hk,rfl,hq,rfl,hdr⟩:=hrel
  have HD:=hid hdr
  clear hdr
  cases k with
  | zero=>
   obtain rfl:q = -1:=by omega
   clear hq
   go_wp2
   go_ret
   refine ⟨?_,_,rfl⟩
   have:a=c:=by simpa using HD.out
   simp [cT,this]
  | succ k=>
   obtain rfl:q=(k:Int):=by omega
   clear hq
   have ka:=hca k (by omega)
   have kc:=hcc k (by omega)
   clear hca hcc
   have b1:(k:Int)<(a.length:Int):=by omega
   by_cases hne:nth a k=nth c k
   ·have hb:(((nth a k:Nat):Int) != ((nth c k:Nat):Int))=false:=by rw [hne];simp
    have HE:=hid hne
    clear hne
    go_wp2
    go_quiet (fail)
    go_wp2
    go_roundw
    case rel=>exact ⟨k,_,_,by omega,rfl,rfl,rfl,by rw [nQ a,nQ c,HE.out,HD.out]⟩
    case measure=>simp [intOf]
   ·have hb:(((nth a k:Nat):Int) != ((nth c k:Nat):Int))=true:=by rw [bne_iff_ne];omega
    go_wp2
    go_quiet (fail)
    go_wp2
    have MS:((w.drewN d).drewN nq).cell? ⟨b,off+k,none⟩=some (.int .i64 (nth a k)):=ka
    have MT:((w.drewN d).drewN nq).cell? ⟨b',off'+k,none⟩=some (.int .i64 (nth c k)):=kc
    generalize hw2:(w.drewN d).drewN nq=w2 at *
    have qD:=hid hw2
    clear hw2
    have V1:=hid (fun h=>jL (qE (b:=10000) (show k<a.length by omega) (show k<c.length by omega) HD.out Al.out h))
    have V2:=hid (fun h=>qF (qE (b:=10000) (show k<c.length by omega) (show k<a.length by omega) HD.out.symm uf.out h))
    clear ka kc
    rcases Nat.lt_or_ge (nth a k) (nth c k) with h | h
    ·have hb2:decide (((nth a k:Nat):Int)<((nth c k:Nat):Int))=true:=decide_eq_true (by omega)
     go_quiet (fail)
     go_wp2
     go_ret
     obtain rfl:=qD.out
     exact ⟨gy (V1.out h).symm,_,by rw [World.drewN_drewN,World.drewN_drewN]⟩
    ·have hb2:decide (((nth a k:Nat):Int)<((nth c k:Nat):Int))=false:=decide_eq_false (by omega)
     have h':nth c k<nth a k:=by omega
     go_quiet (fail)
     go_wp2
     go_ret
     obtain rfl:=qD.out
     exact ⟨gy (V2.out h').symm,_,by rw [World.drewN_drewN,World.drewN_drewN]⟩
theorem Eq  (hx:Sl w .i64 v (am 10000 X)) (hy:Sl w .i64 u (am 10000 Y)) :
  Calls prog 128 #[v,u] w (oG w (cT X Y)):=by
 obtain ⟨p,cap,rfl,h1,h2,h3⟩:=hx
 obtain ⟨p',cap',rfl,h1',h2',h3'⟩:=hy
 rcases Nat.lt_trichotomy (am 10000 X).length (am 10000 Y).length with h | h | h
 ·rw [jL (mq h)]
  exact WU _ _ _ _ _ _ _ h
 ·rcases h3 with h3 | ⟨b,off,rfl,h4,h5⟩
  ·have hX:X=0:=(vC).1 h3
   have hY:Y=0:=by
    rw [h3] at h
    exact (fz).1 h.symm
   subst hX
   subst hY
   rw [uh]
   exact Ep _ _ _ _ _
  ·rcases h3' with h3' | ⟨b',off',rfl,h4',h5'⟩
   ·have hY:Y=0:=(vC).1 h3'
    have hX:X=0:=by
     rw [h3'] at h
     exact (fz).1 h
    subst hX
    subst hY
    rw [uh]
    exact Ep _ _ _ _ _
   ·have q:=WX b off cap b' off' cap' (am 10000 X) (am 10000 Y) w h h5 h5' (eC (by omega) _) (eC (by omega) _)
    rw [cN (by omega),cN (by omega)] at q
    rw [<- h]
    exact q
 ·rw [qF (mq h)]
  exact WW _ _ _ _ _ _ _ h
theorem WY  (hx:(am 10000 X).length<=k) (hy:(am 10000 Y).length<=k) (h0:bM 10000 (nth (am 10000 X)) (nth (am 10000 Y)) k=0)
  (hc:k=0∨k-1<(am 10000 X).length∨k-1<(am 10000 Y).length∨0<bM 10000 (nth (am 10000 X)) (nth (am 10000 Y)) (k-1)) :
  pre (dU 10000 (nth (am 10000 X)) (nth (am 10000 Y))) k=am 10000 (X+Y):=by
 have hv:val 10000 (pre (dU 10000 (nth (am 10000 X)) (nth (am 10000 Y))) k)=X+Y:=by
  have:=nR 10000 (nth (am 10000 X)) (nth (am 10000 Y)) k
  rw [h0,eG _ _ hx,eG _ _ hy,cN (by omega),cN (by omega)] at this
  omega
 have ha:All 10000 (pre (dU 10000 (nth (am 10000 X)) (nth (am 10000 Y))) k):=fN (fun j _=>qH _ _ _)
 have ht:ib (pre (dU 10000 (nth (am 10000 X)) (nth (am 10000 Y))) k):=by
  refine Bk ha ?_
  rw [hv,dh]
  rcases hc with rfl | hc
  ·exact .inl rfl
  right
  by_cases h1:k-1<(am 10000 X).length
  ·have:=ul (b:=10000) (n:=X)
   rw [show k-1=(am 10000 X).length-1 by omega]
   omega
  by_cases h2:k-1<(am 10000 Y).length
  ·have:=ul (b:=10000) (n:=Y)
   rw [show k-1=(am 10000 Y).length-1 by omega]
   omega
  have h3:0<bM 10000 (nth (am 10000 X)) (nth (am 10000 Y)) (k-1):=by
   rcases hc with hc | hc | hc
   ·exact absurd hc h1
   ·exact absurd hc h2
   ·exact hc
  have:=nR 10000 (nth (am 10000 X)) (nth (am 10000 Y)) (k-1)
  rw [eG _ _ (by omega),eG _ _ (by omega),cN (by omega),cN (by omega)] at this
  have h4:=Nat.mul_le_mul_left (10000 ^ (k-1)) h3
  omega
 rw [<- hv,uj ha ht]
set_option maxHeartbeats 2000000 in
theorem WZ  (hx:Sl w .i64 v (am 10000 X)) (hy:Sl w .i64 u (am 10000 Y)) (lx:(am 10000 X).length<=4000000) (ly:(am 10000 Y).length<=4000000) :
  Calls prog 127 #[v,u] w (jZ w (X+Y)):=by
 have tp:=hid (fun k=>WY (X:=X) (Y:=Y) (k:=k))
 have ax:=hid (eC (b:=10000) (by omega) X)
 have ay:=hid (eC (b:=10000) (by omega) Y)
 obtain ⟨p,cap,rfl,h1,h2,h3⟩:=id hx
 obtain ⟨q,cW,rfl,h1',h2',h3'⟩:=id hy
 obtain ⟨i0,hi,hz0,hz1,hz2⟩:=info_parts Tryz.infoI
 generalize hdx:am 10000 X=xs at *
 generalize hdy:am 10000 Y=ys at *
 obtain ⟨n,hn⟩:∃n,xs.length=n:=⟨_,rfl⟩
 obtain ⟨m,hm⟩:∃m,ys.length=m:=⟨_,rfl⟩
 rw [hn] at lx h1 ⊢
 rw [hm] at ly h1' ⊢
 have H3:=hid h3
 have H3':=hid h3'
 have Hn:=hid hn
 have Hm:=hid hm
 clear h3 h3' hn hm hx hy hdx hdy h2 h2'
 have Cb:=hid (fun k=>ui (b:=10000) (f:=nth xs) (g:=nth ys) (bE (by omega) ax.out) (bE (by omega) ay.out) k)
 go_enter func127,ntmps127
 go_wp2_with fail
 go_loopw [5,6,7] (fun o cv i wr=>∃k:Nat,i = .int .i64 k∧cv = .int .i64 (bM 10000 (nth xs) (nth ys) k:Nat)∧k+bM 10000 (nth xs) (nth ys) k<=n+m+1∧Hid (k=0∨k-1<n∨k-1<m∨0<bM 10000 (nth xs) (nth ys) (k-1))∧Own wr 3 .i64 w.heap.size o (pre (dU 10000 (nth xs) (nth ys)) k)∧w.grownBy wr none) (fun _ _ i _=>(n+m+2-(intOf i).toNat))
 case atStart=>exact ⟨0,rfl,rfl,by simp [bM],.inl rfl,Own.nil _ _ _ _,bt _ _⟩
 case round=>
  obtain ⟨k,rfl,rfl,hk,hco,ho,gr⟩:=hrel
  obtain ⟨op,el,rfl⟩:=ho.slice
  have cb:=Cb.out k
  have cb':=Cb.out (k+1)
  have HC:=hid (show bM 10000 (nth xs) (nth ys) (k+1)=(bM 10000 (nth xs) (nth ys) k+(nth xs k+nth ys k)) / 10000 from rfl)
  have HD:=hid (show pre (dU 10000 (nth xs) (nth ys)) (k+1)=pre (dU 10000 (nth xs) (nth ys)) k ++ [(bM 10000 (nth xs) (nth ys) k+(nth xs k+nth ys k)) % 10000] from vE _ _)
  obtain ⟨Z,hZ⟩:∃Z,pre (dU 10000 (nth xs) (nth ys)) k=Z:=⟨_,rfl⟩
  have zl:Z.length=k:=by rw [<- hZ,dh]
  rw [hZ] at HD ho ⊢
  rw [zl] at ho ⊢
  have HZ:=hid hZ
  have Ho:=hid ho
  have Gr:=hid gr
  have Zl:=hid zl
  generalize hcr:bM 10000 (nth xs) (nth ys) k=cr at *
  have Hcr:=hid hcr
  generalize hcs:bM 10000 (nth xs) (nth ys) (k+1)=cs at *
  have Hcs:=hid hcs
  have b1:nth xs k<10000:=bE (by omega) ax.out k
  have b2:nth ys k<10000:=bE (by omega) ay.out k
  clear hZ ho gr hcr hcs zl
  by_cases hx:k<n
  ·rcases H3.out with h3 | ⟨b,off,rfl,hbl,hyx⟩
   ·have:=Hn.out;rw [h3] at this;simp at this;omega
   have c1:wr.cell? ⟨b,off+k,none⟩=some (.int .i64 (nth xs k)):=by
    rw [World.cell?_of_block (w:=w) (Gr.out.block b hbl (by simp)),hyx k (by rw [Hn.out];omega)]
   clear hyx
   by_cases hy:k<m
   ·rcases H3'.out with h3' | ⟨b',off',rfl,lk,hyy⟩
    ·have:=Hm.out;rw [h3'] at this;simp at this;omega
    have c2:wr.cell? ⟨b',off'+k,none⟩=some (.int .i64 (nth ys k)):=by
     rw [World.cell?_of_block (w:=w) (Gr.out.block b' lk (by simp)),hyy k (by rw [Hm.out];omega)]
    clear hyy
    go_wp2_with (at_builtin;refine ir rfl _ _ 59 rfl 3 i0 (.int .i64 0) .i64 underlying59 hi hz0 hz1 rfl w.heap.size (.slice op k el) Z ((cr+(nth xs k+nth ys k)) % 10000) rfl (Ho.out.grown (bg _ _ none) (.inl rfl)) wr.heap.size rfl ?c1 (by rw [Zl.out];omega) (by have:=Gr.out.size;simp;omega) ?_;(case c1=>exact (World.cell?_alloc_at _ _ _ _ rfl).trans (by simp;try omega));intro v' w3 ho3 g3;have du:=hid ho3;have G3:=hid (iQ (v:=.slice op k el) g3 (Ho.out.grown (bg _ _ none) (.inl rfl)) (aR Gr.out (bg _ _ _)));clear ho3 g3)
    go_roundw
    case rel=>
     refine ⟨k+1,by go_num,int_eq (by have:=HC.out;have:=Hcs.out;omega),by rw [Hcs.out];have:=HC.out;omega,.inr (.inl (by omega)),?_,G3.out⟩
     rw [HD.out]
     exact du.out
    case measure=>simp [intOf];omega
   ·have y1:nth ys k=0:=eh ys (h:=(by rw [Hm.out];omega))
    rw [y1] at HC HD
    go_wp2_with (at_builtin;refine ir rfl _ _ 59 rfl 3 i0 (.int .i64 0) .i64 underlying59 hi hz0 hz1 rfl w.heap.size (.slice op k el) Z ((cr+(nth xs k+0)) % 10000) rfl (Ho.out.grown (bg _ _ none) (.inl rfl)) wr.heap.size rfl ?c1 (by rw [Zl.out];omega) (by have:=Gr.out.size;simp;omega) ?_;(case c1=>exact (World.cell?_alloc_at _ _ _ _ rfl).trans (by simp;try omega));intro v' w3 ho3 g3;have du:=hid ho3;have G3:=hid (iQ (v:=.slice op k el) g3 (Ho.out.grown (bg _ _ none) (.inl rfl)) (aR Gr.out (bg _ _ _)));clear ho3 g3)
    go_roundw
    case rel=>
     refine ⟨k+1,by go_num,int_eq (by have:=HC.out;have:=Hcs.out;omega),by rw [Hcs.out];have:=HC.out;omega,.inr (.inl (by omega)),?_,G3.out⟩
     rw [HD.out]
     exact du.out
    case measure=>simp [intOf];omega
  ·have y0:nth xs k=0:=eh xs (h:=(by rw [Hn.out];omega))
   rw [y0] at HC HD
   by_cases hy:k<m
   ·rcases H3'.out with h3' | ⟨b',off',rfl,lk,hyy⟩
    ·have:=Hm.out;rw [h3'] at this;simp at this;omega
    have c2:wr.cell? ⟨b',off'+k,none⟩=some (.int .i64 (nth ys k)):=by
     rw [World.cell?_of_block (w:=w) (Gr.out.block b' lk (by simp)),hyy k (by rw [Hm.out];omega)]
    clear hyy
    go_wp2_with (at_builtin;refine ir rfl _ _ 59 rfl 3 i0 (.int .i64 0) .i64 underlying59 hi hz0 hz1 rfl w.heap.size (.slice op k el) Z ((cr+(0+nth ys k)) % 10000) rfl (Ho.out.grown (bg _ _ none) (.inl rfl)) wr.heap.size rfl ?c1 (by rw [Zl.out];omega) (by have:=Gr.out.size;simp;omega) ?_;(case c1=>exact (World.cell?_alloc_at _ _ _ _ rfl).trans (by simp;try omega));intro v' w3 ho3 g3;have du:=hid ho3;have G3:=hid (iQ (v:=.slice op k el) g3 (Ho.out.grown (bg _ _ none) (.inl rfl)) (aR Gr.out (bg _ _ _)));clear ho3 g3)
    go_roundw
    case rel=>
     refine ⟨k+1,by go_num,int_eq (by have:=HC.out;have:=Hcs.out;omega),by rw [Hcs.out];have:=HC.out;omega,.inr (.inr (.inl (by omega))),?_,G3.out⟩
     rw [HD.out]
     exact du.out
    case measure=>simp [intOf];omega
   ·have y1:nth ys k=0:=eh ys (h:=(by rw [Hm.out];omega))
    rw [y1] at HC HD
    by_cases hcr:cr=0
    ·have hl:Hid (pre (dU 10000 (nth xs) (nth ys)) k=am 10000 (X+Y)):=tp.out k (by rw [Hn.out];omega) (by rw [Hm.out];omega) (by rw [Hcr.out];exact hcr) (by rw [Hn.out,Hm.out];exact hco.out)
     subst hcr
     go_wp2_with fail
     go_ret
     exact ⟨_,rfl,by rw [<- hl.out,HZ.out];exact Ho.out,Gr.out⟩
    ·obtain rfl:cr=1:=by omega
     clear hcr
     go_wp2_with (at_builtin;refine ir rfl _ _ 59 rfl 3 i0 (.int .i64 0) .i64 underlying59 hi hz0 hz1 rfl w.heap.size (.slice op k el) Z ((1+(0+0)) % 10000) rfl (Ho.out.grown (bg _ _ none) (.inl rfl)) wr.heap.size rfl ?c1 (by rw [Zl.out];omega) (by have:=Gr.out.size;simp;omega) ?_;(case c1=>exact (World.cell?_alloc_at _ _ _ _ rfl).trans (by simp;try omega));intro v' w3 ho3 g3;have du:=hid ho3;have G3:=hid (iQ (v:=.slice op k el) g3 (Ho.out.grown (bg _ _ none) (.inl rfl)) (aR Gr.out (bg _ _ _)));clear ho3 g3)
     go_roundw
     case rel=>
      refine ⟨k+1,by go_num,int_eq (by have:=HC.out;have:=Hcs.out;omega),by rw [Hcs.out];have:=HC.out;omega,.inr (.inr (.inr (by show 0<bM _ _ _ k;rw [Hcr.out];omega))),?_,G3.out⟩
      rw [HD.out]
      exact du.out
     case measure=>simp [intOf];omega
set_option maxHeartbeats 2000000 in
theorem Er  (hx:Sl w .i64 v (am 10000 X)) (hy:Sl w .i64 u (am 10000 Y)) (lx:(am 10000 X).length<=4000000) (hle:Y<=X) :
  Calls prog 129 #[v,u] w (jZ w (X-Y)):=by
 have ax:=hid (eC (b:=10000) (by omega) X)
 have ay:=hid (eC (b:=10000) (by omega) Y)
 have hml:=oE (b:=10000) hle
 have Fin:=hid (show val 10000 (pre (fE 10000 (nth (am 10000 X)) (nth (am 10000 Y))) (am 10000 X).length)=X-Y by
  have:=Bp ax.out ay.out hml (by rw [cN (by omega),cN (by omega)];exact hle)
  rwa [cN (by omega),cN (by omega)] at this)
 obtain ⟨p,cap,rfl,h1,h2,h3⟩:=id hx
 obtain ⟨q,cW,rfl,h1',h2',h3'⟩:=id hy
 obtain ⟨i0,hi,hz0,hz1,hz2⟩:=info_parts Tryz.infoI
 generalize hdx:am 10000 X=xs at *
 generalize hdy:am 10000 Y=ys at *
 obtain ⟨n,hn⟩:∃n,xs.length=n:=⟨_,rfl⟩
 obtain ⟨m,hm⟩:∃m,ys.length=m:=⟨_,rfl⟩
 rw [hn] at lx h1 Fin hml ⊢
 rw [hm] at hml h1' ⊢
 obtain ⟨Z,hZ⟩:∃Z,pre (fE 10000 (nth xs) (nth ys)) n=Z:=⟨_,rfl⟩
 have zl:Z.length=n:=by rw [<- hZ,dh]
 have hZn:∀j,j<n->nth Z j=fE 10000 (nth xs) (nth ys) j:=fun j hj=>by rw [<- hZ];exact fk _ hj
 have za:All 10000 Z:=by rw [<- hZ];exact fN (fun j _=>up (bE (by omega) ax.out) j)
 rw [hZ] at Fin
 have H3:=hid h3
 have H3':=hid h3'
 have Hn:=hid hn
 have Hm:=hid hm
 have Zl:=hid zl
 have HZn:=hid hZn
 have Za:=hid za
 clear h3 h3' hn hm hx hy hdx hdy h2 h2' hZ zl hZn za hle
 go_enter func129,ntmps129
 go_wp2_with (at_make;refine gR rfl _ _ 59 rfl 3 i0 (.int .i64 0) underlying59 hi hz0 hz1 rfl _ _ _ _ n n rfl rfl (Nat.le_refl _) ?_;intro w1 r1 g1 s1;have R1:=hid r1;have G1:=hid g1;clear r1 g1)
 go_loopw [6,14] (fun cv i wr=>∃k:Nat,k<=n∧i = .int .i64 k∧cv = .int .i64 (bm (nth xs) (nth ys) k:Nat)∧aJ wr 3 w.heap.size n (lay (fun _=>.int .i64 0) 0 k .i64 Z)∧w.grownBy wr none∧w.heap.size<wr.heap.size) (fun _ i _=>(n-(intOf i).toNat))
 case atStart=>exact ⟨0,by omega,rfl,rfl,by rw [iq];exact R1.out,G1.out,by omega⟩
 case round=>
  obtain ⟨k,hk,rfl,rfl,rr,gr,sr⟩:=hrel
  have Gr:=hid gr
  by_cases hx:k<n
  ·rcases H3.out with h3 | ⟨b,off,rfl,hbl,hyx⟩
   ·have:=Hn.out;rw [h3] at this;simp at this;omega
   have c1:wr.cell? ⟨b,off+k,none⟩=some (.int .i64 (nth xs k)):=by
    rw [World.cell?_of_block (w:=w) (gr.block b hbl (by simp)),hyx k (by rw [Hn.out];omega)]
   clear hyx
   have f1:wr.frozen? ⟨w.heap.size,k,none⟩=false:=rr.frozen _
   have c3:wr.cell? ⟨w.heap.size,k,none⟩=some (.int .i64 0):=by rw [rr.cell (by omega),dQ _ _ _]
   have b1:nth xs k<10000:=bE (by omega) ax.out k
   have b2:nth ys k<10000:=bE (by omega) ay.out k
   have i1:(k:Int)<(n:Int):=by omega
   have HS:=hid (show nth Z k+(nth ys k+bm (nth xs) (nth ys) k)=nth xs k+10000*bm (nth xs) (nth ys) (k+1) by
    rw [HZn.out k hx];exact qK (bE (by omega) ay.out) k)
   have HC:=hid (show bm (nth xs) (nth ys) (k+1)=if nth xs k<nth ys k+bm (nth xs) (nth ys) k then 1 else 0 from rfl)
   have hcr:=nW (nth xs) (nth ys) k
   generalize bm (nth xs) (nth ys) k=cr at *
   have RR:=hid rr
   clear rr gr
   by_cases hy:k<m
   ·rcases H3'.out with h3' | ⟨b',off',rfl,lk,hyy⟩
    ·have:=Hm.out;rw [h3'] at this;simp at this;omega
    have c2:wr.cell? ⟨b',off'+k,none⟩=some (.int .i64 (nth ys k)):=by
     rw [World.cell?_of_block (w:=w) (Gr.out.block b' lk (by simp)),hyy k (by rw [Hm.out];omega)]
    clear hyy
    by_cases hs:nth xs k<nth ys k+cr
    ·have hs2:((nth xs k:Nat):Int)-(cr:Int)-((nth ys k:Nat):Int)<0:=by omega
     have HC1:Hid (bm (nth xs) (nth ys) (k+1)=1):=by show _=_;rw [HC.out];exact if_pos hs
     have HE:Hid (nth Z k+(nth ys k+cr)=nth xs k+10000*1):=by show _=_;rw [HS.out,HC1.out]
     go_wp2
     go_roundw
     case rel=>
      refine ⟨k+1,by omega,by go_num,by rw [HC1.out];try rfl,?_,cK Gr.out (bV _ _ _ _) (Nat.le_refl _),by simpa using sr⟩
      rw [<- gx _ k .i64 Z rfl]
      refine (RR.out.set k _).congr fun j _=>?_
      congr 1
      exact int_eq (by have:=HE.out;omega)
     case measure=>simp [intOf];omega
    ·have hs2:¬((nth xs k:Nat):Int)-(cr:Int)-((nth ys k:Nat):Int)<0:=by omega
     have HC1:Hid (bm (nth xs) (nth ys) (k+1)=0):=by show _=_;rw [HC.out];exact if_neg hs
     have HE:Hid (nth Z k+(nth ys k+cr)=nth xs k+10000*0):=by show _=_;rw [HS.out,HC1.out]
     go_wp2
     go_roundw
     case rel=>
      refine ⟨k+1,by omega,by go_num,by rw [HC1.out];try rfl,?_,cK Gr.out (bV _ _ _ _) (Nat.le_refl _),by simpa using sr⟩
      rw [<- gx _ k .i64 Z rfl]
      refine (RR.out.set k _).congr fun j _=>?_
      congr 1
      exact int_eq (by have:=HE.out;omega)
     case measure=>simp [intOf];omega
   ·have y1:nth ys k=0:=eh ys (h:=(by rw [Hm.out];omega))
    by_cases hs:nth xs k<nth ys k+cr
    ·have hs2:((nth xs k:Nat):Int)-(cr:Int)<0:=by omega
     have HC1:Hid (bm (nth xs) (nth ys) (k+1)=1):=by show _=_;rw [HC.out];exact if_pos hs
     have HE:Hid (nth Z k+(nth ys k+cr)=nth xs k+10000*1):=by show _=_;rw [HS.out,HC1.out]
     go_wp2
     go_roundw
     case rel=>
      refine ⟨k+1,by omega,by go_num,by rw [HC1.out];try rfl,?_,cK Gr.out (bV _ _ _ _) (Nat.le_refl _),by simpa using sr⟩
      rw [<- gx _ k .i64 Z rfl]
      refine (RR.out.set k _).congr fun j _=>?_
      congr 1
      exact int_eq (by have:=HE.out;omega)
     case measure=>simp [intOf];omega
    ·have hs2:¬((nth xs k:Nat):Int)-(cr:Int)<0:=by omega
     have HC1:Hid (bm (nth xs) (nth ys) (k+1)=0):=by show _=_;rw [HC.out];exact if_neg hs
     have HE:Hid (nth Z k+(nth ys k+cr)=nth xs k+10000*0):=by show _=_;rw [HS.out,HC1.out]
     go_wp2
     go_roundw
     case rel=>
      refine ⟨k+1,by omega,by go_num,by rw [HC1.out];try rfl,?_,cK Gr.out (bV _ _ _ _) (Nat.le_refl _),by simpa using sr⟩
      rw [<- gx _ k .i64 Z rfl]
      refine (RR.out.set k _).congr fun j _=>?_
      congr 1
      exact int_eq (by have:=HE.out;omega)
     case measure=>simp [intOf];omega
  ·obtain rfl:k=n:=by omega
   have ho:Own wr 3 .i64 w.heap.size (.slice (some ⟨w.heap.size,0,none⟩) k k) Z:=
    .inr ⟨w.heap.size,_,_,by rw [Zl.out],Nat.le_refl _,rr,by rw [Zl.out];omega,by omega,fun j hj=>ip _ _ _ (by rw [Zl.out] at hj;exact hj)⟩
   have Ho:=hid ho
   clear ho rr gr
   go_wp2_with fail
   refine (mF _ _ _ Z _ Ho.out.sl).mono ?_
   rintro e w'' ⟨rfl,rfl⟩
   go_wp2_with fail
   go_ret
   refine ⟨_,rfl,?_,Gr.out⟩
   rw [<- Fin.out,<- dH Za.out]
   exact Ho.out.trim
theorem Xa  (t:Nat) (h:k<xs.length):val b (xs.set k t)+b ^ k*nth xs k=val b xs+b ^ k*t:=by
 have e1:=fC b xs (k:=k)
 have e2:=fC b (xs.set k t) (k:=k) (h:=(by rw [List.length_set];omega))
 rw [nY t h,List.take_set_of_le (Nat.le_refl _)] at e2
 rw [fa b xs h] at e1
 rw [e1,e2,Nat.mul_add,Nat.mul_add]
 omega
theorem Xb (b:Nat) (ys:List Nat) (k:Nat):val b (ys.take (k+1))=val b (ys.take k)+b ^ k*nth ys k:=by
 rcases Nat.lt_or_ge k ys.length with h | h
 ·exact iN b ys (h:=h)
 ·rw [List.take_of_length_le (by omega),List.take_of_length_le h,eh ys (h:=h),Nat.mul_zero,Nat.add_zero]
theorem Es {x V0 s:Nat} (hk:i+k<R.length) (h:val 10000 R+10000 ^ (i+k)*c=V0+10000 ^ i*(x*val 10000 (ys.take k))) (hs:nth R (i+k)+c+x*nth ys k=s) :
  val 10000 (R.set (i+k) (s % 10000))+10000 ^ (i+(k+1))*(s / 10000)=V0+10000 ^ i*(x*val 10000 (ys.take (k+1))):=by
 have e1:=Xa (b:=10000) (s % 10000) hk
 have e2:=Nat.mod_add_div s 10000
 have e3:10000 ^ (i+k)*(s % 10000)+10000 ^ (i+(k+1))*(s / 10000)=10000 ^ (i+k)*s:=by
  rw [<- Nat.add_assoc,Nat.pow_succ,Nat.mul_assoc,<- Nat.mul_add,e2]
 have e4:10000 ^ (i+k)*s=10000 ^ (i+k)*nth R (i+k)+10000 ^ (i+k)*c+10000 ^ (i+k)*(x*nth ys k):=by rw [<- hs,Nat.mul_add,Nat.mul_add]
 have e5:10000 ^ i*(x*val 10000 (ys.take (k+1)))=10000 ^ i*(x*val 10000 (ys.take k))+10000 ^ (i+k)*(x*nth ys k):=by
  rw [Xb,Nat.mul_add,Nat.mul_add,Nat.pow_add,Nat.mul_assoc,Nat.mul_left_comm x]
 omega
theorem Xc  (ax:All 10000 xs) (ay:All 10000 ys) (hi:i<xs.length) (hk:ys.length<=k)
  (h:val 10000 R+10000 ^ (i+k)*c=val 10000 (xs.take i)*val 10000 ys+10000 ^ i*(nth xs i*val 10000 (ys.take k))) (hc:0<c:=by omega):k=ys.length:=by
 rw [List.take_of_length_le hk,<- Nat.mul_assoc,<- Nat.add_mul,<- iN 10000 xs (h:=hi)] at h
 have h1:=eu (ax.take (i+1))
 rw [List.length_take,Nat.min_eq_left (by omega)] at h1
 have h2:=eu ay
 have h3:val 10000 (xs.take (i+1))*val 10000 ys<10000 ^ (i+1)*10000 ^ ys.length:=Nat.mul_lt_mul'' h1 h2
 rw [<- Nat.pow_add] at h3
 have h4:10000 ^ (i+k)<=10000 ^ (i+k)*c:=Nat.le_mul_of_pos_right _ hc
 have h5:10000 ^ (i+k)<10000 ^ (i+1+ys.length):=by omega
 have:=(Nat.pow_lt_pow_iff_right (a:=10000) (by omega)).1 h5
 omega
theorem Xd  (hi:i<xs.length) (hk:ys.length<=k)
  (h:val 10000 R+10000 ^ (i+k)*0=val 10000 (xs.take i)*val 10000 ys+10000 ^ i*(nth xs i*val 10000 (ys.take k))):val 10000 R=val 10000 (xs.take (i+1))*val 10000 ys:=by
 rw [List.take_of_length_le hk,<- Nat.mul_assoc,<- Nat.add_mul,<- iN 10000 xs (h:=hi)] at h
 simpa using h
theorem vN {g N:Nat}{k:IntKind}{t:Nat} (hl:R.length=N) (h:aJ w e g N (fun j=>.int k (nth R j))) (hv:v = .int k (t:Int)) (hj:j<N:=by omega) :
  aJ (w.setCell ⟨g,j,none⟩ v) e g N (fun i=>.int k (nth (R.set j t) i)):=by
 refine (h.set j v).congr fun i hi=>?_
 by_cases hij:i=j
 ·subst hij
  rw [iZ,ms _ (by omega),hv]
 ·rw [upd_ne _ _ hij,qL _ _ hij]
set_option maxHeartbeats 2000000 in
theorem Xe  (hx:Sl w .i64 v (am 10000 X)) (hy:Sl w .i64 u (am 10000 Y)) (lx:(am 10000 X).length<=4000000) (ly:(am 10000 Y).length<=4000000) :
  Calls prog 76 #[v,u] w (jZ w (X*Y)):=by
 have ax:=hid (eC (b:=10000) (by omega) X)
 have ay:=hid (eC (b:=10000) (by omega) Y)
 have vx:=hid (cN (b:=10000) (by omega) X)
 have vy:=hid (cN (b:=10000) (by omega) Y)
 obtain ⟨p,cap,rfl,h1,h2,h3⟩:=id hx
 obtain ⟨q,cW,rfl,h1',h2',h3'⟩:=id hy
 obtain ⟨i0,hi,hz0,hz1,hz2⟩:=info_parts Tryz.infoI
 generalize hdx:am 10000 X=xs at *
 generalize hdy:am 10000 Y=ys at *
 obtain ⟨n,hn⟩:∃n,xs.length=n:=⟨_,rfl⟩
 obtain ⟨m,hm⟩:∃m,ys.length=m:=⟨_,rfl⟩
 rw [hn] at lx h1 ⊢
 rw [hm] at ly h1' ⊢
 have H3:=hid h3
 have H3':=hid h3'
 have Hn:=hid hn
 have Hm:=hid hm
 clear h3 h3' hn hm hx hy hdx hdy h2 h2'
 go_enter func76,ntmps76
 go_wp2_with (at_make;refine gR rfl _ _ 59 rfl 3 i0 (.int .i64 0) underlying59 hi hz0 hz1 rfl _ _ _ _ (n+m) (n+m) rfl rfl (Nat.le_refl _) ?_;intro w1 r1 g1 s1;have R1:=hid r1;have G1:=hid g1;clear r1 g1)
 go_loopw [18] (fun iv wr=>∃(i:Nat) (R:List Nat),i<=n∧iv = .int .i64 i∧R.length=n+m∧All 10000 R∧val 10000 R=val 10000 (xs.take i)*val 10000 ys∧aJ wr 3 w.heap.size (n+m) (fun j=>.int .i64 (nth R j))∧w.grownBy wr none∧w.heap.size<wr.heap.size) (fun iv _=>(n-(intOf iv).toNat))
 case atStart=>exact ⟨0,List.replicate (n+m) 0,by omega,rfl,by simp,All.kT (by omega) _,by simp [jQ,val],R1.out.congr fun j hj=>by simp [nth,hj],G1.out,by omega⟩
 case round=>
  obtain ⟨i,R,hin,rfl,rl,ra,rv,rr,gr,sr⟩:=hrel
  have Rl:=hid rl
  have Ra:=hid ra
  have Rv:=hid rv
  have RR:=hid rr
  have Gr:=hid gr
  clear rl ra rv rr gr
  by_cases hx:i<n
  ·go_wp2_with fail
   go_loopw [7,8] (fun cv kv wr=>∃(k c:Nat) (R:List Nat),k<=m+1∧kv = .int .i64 k∧cv = .int .i64 c∧c<10000∧Hid (R.length=n+m)∧Hid (All 10000 R)∧Hid (val 10000 R+10000 ^ (i+k)*c=val 10000 (xs.take i)*val 10000 ys+10000 ^ i*(nth xs i*val 10000 (ys.take k)))∧Hid (aJ wr 3 w.heap.size (n+m) (fun j=>.int .i64 (nth R j)))∧Hid (w.grownBy wr none)∧w.heap.size<wr.heap.size) (fun _ kv _=>(m+2-(intOf kv).toNat))
   case atStart=>exact ⟨0,0,R,by omega,rfl,rfl,by omega,Rl,Ra,by show _=_;rw [Rv.out];simp [val],RR,Gr,sr⟩
   case round=>
    clear R Rl Ra Rv RR Gr sr
    obtain ⟨k,c,R,hk,rfl,rfl,hc,Rl,Ra,Rv,RR,Gr,sr⟩:=hrel
    have b0:nth R (i+k)<10000:=bE (by omega) Ra.out _
    have bx:nth xs i<10000:=bE (by omega) ax.out _
    by_cases hy:k<m
    ·rcases H3.out with h3 | ⟨b,off,rfl,hbl,hyx⟩
     ·have:=Hn.out;rw [h3] at this;simp at this;omega
     have c1:wr.cell? ⟨b,off+i,none⟩=some (.int .i64 (nth xs i)):=by
      rw [World.cell?_of_block (w:=w) (Gr.out.block b hbl (by simp)),hyx i (by rw [Hn.out];omega)]
     clear hyx
     rcases H3'.out with h3' | ⟨b',off',rfl,lk,hyy⟩
     ·have:=Hm.out;rw [h3'] at this;simp at this;omega
     have c2:wr.cell? ⟨b',off'+k,none⟩=some (.int .i64 (nth ys k)):=by
      rw [World.cell?_of_block (w:=w) (Gr.out.block b' lk (by simp)),hyy k (by rw [Hm.out];omega)]
     clear hyy
     have c3:wr.cell? ⟨w.heap.size,i+k,none⟩=some (.int .i64 (nth R (i+k))):=RR.out.cell (by omega)
     have f1:wr.frozen? ⟨w.heap.size,i+k,none⟩=false:=RR.out.frozen _
     have b2:nth ys k<10000:=bE (by omega) ay.out k
     have i1:(k:Int)<(m:Int):=by omega
     have i2:(i:Int)<(n:Int):=by omega
     have i3:(i:Int)+(k:Int)<(n:Int)+(m:Int):=by omega
     have HS:=hid (fun s=>Es (s:=s) (by rw [Rl.out];omega) Rv.out)
     have hp:=Nat.mul_le_mul (show nth xs i<=9999 by omega) (show nth ys k<=9999 by omega)
     obtain ⟨t,ht⟩:∃t,nth xs i*nth ys k=t:=⟨_,rfl⟩
     rw [ht] at hp HS
     have ht':((nth xs i:Nat):Int)*((nth ys k:Nat):Int)=(t:Int):=by rw [<- ht,Int.natCast_mul]
     clear ht
     go_wp2
     go_quiet (fail)
     have c3':(wr.drewN nq).cell? ⟨w.heap.size,i+k,none⟩=some (.int .i64 (nth R (i+k))):=c3
     have f1':(wr.drewN nq).frozen? ⟨w.heap.size,i+k,none⟩=false:=f1
     go_wp2
     go_roundw
     case rel=>
      obtain ⟨s,hs⟩:∃s,nth R (i+k)+c+t=s:=⟨_,rfl⟩
      refine ⟨k+1,s / 10000,R.set (i+k) (s % 10000),by omega,by go_num,int_eq (by omega),by omega,?_,?_,HS.out s hs,?_,?_,by simpa using sr⟩
      ·show _=_
       rw [List.length_set,Rl.out]
      ·exact Ra.out.set (by omega) _
      ·exact vN Rl.out (show aJ (wr.drewN nq) _ _ _ _ from RR.out) (int_eq (by omega))
      ·exact cK (aR Gr.out (ic _ _ _)) (bV _ _ _ _) (Nat.le_refl _)
     case measure=>simp [intOf] <;> omega
    ·by_cases hc0:c=0
     ·subst hc0
      have RD:=hid (Xd (by rw [Hn.out];omega) (by rw [Hm.out];omega) Rv.out)
      go_wp2
      go_roundw
      case rel=>exact ⟨i+1,R,by omega,by go_num,Rl.out,Ra.out,RD.out,RR.out,Gr.out,sr⟩
      case measure=>simp [intOf] <;> omega
     ·have hkm:k=m:=by
       rw [<- Hm.out]
       exact Xc ax.out ay.out (by rw [Hn.out];omega) (by rw [Hm.out];omega) Rv.out
      subst hkm
      have y1:nth ys k=0:=eh ys (h:=(by rw [Hm.out];omega))
      have c3:wr.cell? ⟨w.heap.size,i+k,none⟩=some (.int .i64 (nth R (i+k))):=RR.out.cell (by omega)
      have f1:wr.frozen? ⟨w.heap.size,i+k,none⟩=false:=RR.out.frozen _
      have i3:(i:Int)+(k:Int)<(n:Int)+(k:Int):=by omega
      have HS:=hid (fun s=>Es (s:=s) (by rw [Rl.out];omega) Rv.out)
      rw [y1,Nat.mul_zero] at HS
      clear y1
      have hcp:0<c:=by omega
      go_wp2
      go_roundw
      case rel=>
       obtain ⟨s,hs⟩:∃s,nth R (i+k)+c+0=s:=⟨_,rfl⟩
       refine ⟨k+1,s / 10000,R.set (i+k) (s % 10000),by omega,by go_num,int_eq (by omega),by omega,?_,?_,HS.out s hs,?_,?_,by simpa using sr⟩
       ·show _=_
        rw [List.length_set,Rl.out]
       ·exact Ra.out.set (by omega) _
       ·exact vN Rl.out RR.out (int_eq (by omega))
       ·exact cK Gr.out (bV _ _ _ _) (Nat.le_refl _)
      case measure=>simp [intOf] <;> omega
  ·obtain rfl:i=n:=by omega
   have ho:Own wr 3 .i64 w.heap.size (.slice (some ⟨w.heap.size,0,none⟩) (i+m) (i+m)) R:=
    .inr ⟨w.heap.size,_,_,by rw [Rl.out],Nat.le_refl _,RR.out,by rw [Rl.out];omega,by omega,fun j hj=>rfl⟩
   have Ho:=hid ho
   clear ho
   go_wp2_with fail
   refine (mF _ _ _ R _ Ho.out.sl).mono ?_
   rintro e w'' ⟨rfl,rfl⟩
   go_wp2_with fail
   go_ret
   refine ⟨_,rfl,?_,Gr.out⟩
   have e:X*Y=val 10000 R:=by rw [Rv.out,List.take_of_length_le (by rw [Hn.out];omega),vx.out,vy.out]
   rw [e,<- dH Ra.out]
   exact Ho.out.trim
def Xf (w:World) (Q R:Nat) (e:Ending) (w':World):Prop:=
 ∃v u,e = .returned (.tuple #[v,u])∧Own w' 3 .i64 w.heap.size v (am 10000 Q)∧Own w' 3 .i64 w.heap.size u (am 10000 R)∧w.grownBy w' none
theorem Et (w:World) (e:TypeId) (k:IntKind) (x:Nat) (B:Nat) (hB:B<=w.heap.size):Own (w.alloc (.cells #[.int k x] e)) e k B (.slice (some ⟨w.heap.size,0,none⟩) 1 1) [x]:=by
 refine .inr ⟨w.heap.size,1,fun _=>.int k x,rfl,hB,?_,Nat.le_refl _,by omega,fun j hj=>?_⟩
 ·exact aJ.made w #[.int k x] e _ (fun j hj=>by
   have:j=0:=by simpa using hj
   subst this;rfl)
 ·have:j=0:=by simpa using hj
  subst this;rfl
theorem Xg  (ha:a<10000):trim ([a] ++ am 10000 r)=am 10000 (a+10000*r):=by
 have h:All 10000 ([a] ++ am 10000 r):=All.cons ha (eC (by omega) _)
 rw [dH h]
 simp [val,cN]
theorem Xh {lo hi:Nat} (hm:(lo+hi+1) / 2=m) (hl:lo<hi):lo<m∧m<=hi:=by omega
theorem Xi (p:Option Addr) (a b c d:Nat):(Value.slice p a b).ownBlock=(Value.slice p c d).ownBlock:=by
 cases p <;> simp [Value.ownBlock]
theorem Xj (Y:Nat):(am 10000 (10000*Y)).length<=(am 10000 Y).length+1:=by
 refine gl (by omega) _ _ ?_
 have:=hH (b:=10000) Y
 rw [Nat.pow_succ]
 omega
theorem Xk {V A Z T l:Nat} (h:A=Z*Y+r) (hT:a+10000*r=T) (hl:Y*l<=T) (hV:V=a+10000*A):V=(l+10000*Z)*Y+(T-Y*l):=by
 obtain ⟨d,rfl⟩:∃d,T=Y*l+d:=⟨T-Y*l,by omega⟩
 rw [Nat.add_sub_cancel_left,hV,h,Nat.add_mul,Nat.mul_add,Nat.mul_comm l Y,Nat.mul_assoc]
 omega
set_option maxHeartbeats 2000000 in
theorem Xl  (hx:Sl w .i64 v (am 10000 X)) (hy:Sl w .i64 u (am 10000 Y)) (lx:(am 10000 X).length<=3000000) (ly:(am 10000 Y).length<=3000000) (hY:0<Y) :
  Calls prog 146 #[v,u] w (Xf w (X / Y) (X % Y)):=by
 have ax:=hid (eC (b:=10000) (by omega) X)
 have vx:=hid (cN (b:=10000) (by omega) X)
 obtain ⟨p,cap,rfl,h1,h2,h3⟩:=id hx
 obtain ⟨q,cW,rfl,-⟩:=id hy
 obtain ⟨i0,hi,hz0,hz1,hz2⟩:=info_parts Tryz.infoI
 generalize hdx:am 10000 X=xs at *
 obtain ⟨n,hn⟩:∃n,xs.length=n:=⟨_,rfl⟩
 rw [hn] at lx h1 ⊢
 have H3:=hid h3
 have Hn:=hid hn
 have Hy:=hid hy
 clear h3 hn hx hy hdx h2
 go_enter func146,ntmps146
 go_wp2_with (at_make;refine gR rfl _ _ 59 rfl 3 i0 (.int .i64 0) underlying59 hi hz0 hz1 rfl _ _ _ _ n n rfl rfl (Nat.le_refl _) ?_;intro w1 r1 g1 s1;have R1:=hid r1;have G1:=hid g1;clear r1 g1)
 go_loopw [7,8] (fun rv iv wr=>∃(k r:Nat) (q:Int) (Z:List Nat),k<=n∧iv = .int .i64 q∧q=(k:Int)-1∧Hid (r<Y)∧Hid (Z.length=n)∧Hid (All 10000 Z) ∧
   Hid (val 10000 (xs.drop k)=val 10000 (Z.drop k)*Y+r)∧Hid (Own wr 3 .i64 w.heap.size rv (am 10000 r))∧Hid (aJ wr 3 w.heap.size n (fun j=>.int .i64 (nth Z j)))∧Hid (w.grownBy wr none)∧w.heap.size<wr.heap.size) (fun _ i _=>(intOf i+1).toNat)
 case atStart=>
  refine ⟨n,0,_,List.replicate n 0,by omega,rfl,rfl,hY,?_,All.kT (by omega) _,?_,Own.nil _ _ _ _,R1.out.congr fun j hj=>by simp [nth,hj],G1.out,by omega⟩
  ·show _=_
   simp
  ·show _=_
   rw [List.drop_of_length_le (by rw [Hn.out];omega),List.drop_replicate,jQ]
   simp [val]
 case round=>
  obtain ⟨k,r,q,Z,hk,rfl,hq,Hr,Zl,Za,Hv,Ro,Rr,Gr,sr⟩:=hrel
  have Rs:=hid Ro.out.sl
  obtain ⟨rp,Xm,rfl,-⟩:=id Rs.out
  cases k with
  | zero=>
   obtain rfl:q = -1:=by omega
   have ho:Own wr 3 .i64 w.heap.size (.slice (some ⟨w.heap.size,0,none⟩) n n) Z:=
    .inr ⟨w.heap.size,_,_,by rw [Zl.out],Nat.le_refl _,Rr.out,by rw [Zl.out];omega,by omega,fun j _=>rfl⟩
   have Ho:=hid ho
   clear ho hq
   go_wp2_with fail
   refine (mF _ _ _ Z _ Ho.out.sl).mono ?_
   rintro e w'' ⟨rfl,rfl⟩
   go_wp2_with fail
   go_ret2
   have hv:=Hv.out
   simp only [List.drop_zero] at hv
   rw [vx.out] at hv
   have e1:X / Y=val 10000 Z:=by
    rw [hv,Nat.mul_comm,Nat.mul_add_div hY,Nat.div_eq_of_lt Hr.out];omega
   have e2:X % Y=r:=by
    rw [hv,Nat.mul_comm,Nat.mul_add_mod,Nat.mod_eq_of_lt Hr.out]
   refine ⟨_,_,rfl,?_,by rw [e2];exact Ro.out,Gr.out⟩
   rw [e1,<- dH Za.out]
   exact Ho.out.trim
  | succ k=>
   obtain rfl:q=(k:Int):=by omega
   rcases H3.out with h3 | ⟨b,off,rfl,hbl,hyx⟩
   ·have:=Hn.out;rw [h3] at this;simp at this;omega
   have c1:wr.cell? ⟨b,off+k,none⟩=some (.int .i64 (nth xs k)):=by
    rw [World.cell?_of_block (w:=w) (Gr.out.block b hbl (by simp)),hyx k (by rw [Hn.out];omega)]
   have b1:nth xs k<10000:=ax.out.nth (by rw [Hn.out];omega)
   have i1:(k:Int)<(n:Int):=by omega
   have OO:=hid (Et wr 3 .i64 (nth xs k) wr.heap.size (Nat.le_refl _))
   have lr:=hid (Nat.le_trans (oE (b:=10000) (Nat.le_of_lt Hr.out)) ly)
   have Eu:=hid (Rs.out.grown (bg wr (.cells #[.int .i64 (nth xs k:Nat)] 3) none) (.inl rfl))
   have Tr:=hid (Xg (r:=r) b1)
   clear hyx hq
   go_wp2_with (at_builtin;refine Ga rfl _ _ 59 rfl 3 i0 (.int .i64 0) .i64 underlying59 hi hz0 hz1 rfl wr.heap.size (.slice (some ⟨wr.heap.size,0,none⟩) 1 1) [nth xs k] rfl OO.out rp (am 10000 r).length Xm (am 10000 r) rfl Eu.out (by have:=lr.out;simp;omega) ?_;intro v' w3 ho3 g3;have du:=hid ho3;have G3:=hid g3;clear ho3 g3)
   have GW3:=hid (iQ (v:=.slice (some ⟨wr.heap.size,0,none⟩) 1 1) G3.out (OO.out.mono (show w.heap.size<=_ by omega)) (aR Gr.out (bg _ _ _)))
   have Rr3:=hid ((Rr.out.grown (bg wr (.cells #[.int .i64 (nth xs k:Nat)] 3) none) (by simp)).grown G3.out (by simp [Value.ownBlock];omega))
   have s3:w.heap.size<w3.heap.size:=by have:=G3.out.size;simp at this;omega
   obtain ⟨vp,vc,rfl⟩:=du.out.slice
   refine (mF _ _ _ _ _ du.out.sl).mono ?_
   rintro e w'' ⟨rfl,rfl⟩
   obtain ⟨T,hT⟩:∃T,nth xs k+10000*r=T:=⟨_,rfl⟩
   have hTl:T<10000*Y:=by have:=Hr.out;omega
   rw [hT] at Tr
   have HT:=hid hT
   have Va:=hid (fun g (hg:(Value.slice vp (am 10000 T).length vc).ownBlock=some g)=>(du.out.lt g ((Xi vp _ _ _ _).trans hg)).1)
   have St:=hid (show Sl w3 .i64 (.slice vp (am 10000 T).length vc) (am 10000 T) by rw [<- Tr.out];exact du.out.sl.trim)
   rw [Tr.out]
   clear hT OO Eu Rs Rr G3 du Tr c1
   go_wp2_with fail
   go_loopw [9,10] (fun lo hi wr=>∃l h:Nat,lo = .int .i64 l∧hi = .int .i64 h∧l<=h∧h<=9999∧Hid (Y*l<=T)∧Hid (T<Y*(h+1))∧Hid (w3.grownBy wr none)) (fun lo hi _=>(intOf hi-intOf lo).toNat)
   case atStart=>exact ⟨0,9999,rfl,rfl,by omega,by omega,by show _<=_;omega,by show _<_;omega,bt _ _⟩
   case round=>
    have srO:=sr
    obtain ⟨l,h,rfl,rfl,hlh,h99,Hl,Hh,G4⟩:=hrel
    have G5:=hid (aR GW3.out G4.out)
    have Hy5:=hid (Hy.out.grown G5.out (.inl rfl))
    have St5:=hid (St.out.grown G4.out (.inl rfl))
    have ru:=hid (Rr3.out.grown G4.out (by simp))
    have s5:w.heap.size<wr.heap.size:=Nat.lt_of_lt_of_le s3 G4.out.size
    by_cases hlt:l<h
    ·obtain ⟨m,hm⟩:∃m,(l+h+1) / 2=m:=⟨_,rfl⟩
     obtain ⟨hm1,hm2⟩:=Xh hm hlt
     have hm':((l:Int)+(h:Int)+1) / 2=(m:Int):=by omega
     have Ha:=hid hm
     clear hm
     go_wp2_with fail
     refine (oC m 0 Hy5.out (by omega)).mono ?_
     rintro e w4 ⟨v4,rfl,ho4,g4⟩
     rw [Nat.add_zero] at ho4
     have Ho4:=hid ho4
     have G6:=hid (aR G4.out g4)
     have vO:=hid (St5.out.grown g4 (.inl rfl))
     have sg:=g4.size
     clear ho4 g4
     go_wp2_with fail
     refine (Eq Ho4.out.sl vO.out).mono ?_
     rintro e w5 ⟨rfl,dn,rfl⟩
     have G7:=hid (aR G6.out (ic w4 dn none))
     by_cases hle:Y*m<=T
     ·have hc:cT (Y*m) T<=0:=DW.2 hle
      have Hle:=hid hle
      clear hle
      generalize cT (Y*m) T=cv at *
      go_wp2_with fail
      go_roundw
      case rel=>exact ⟨m,h,rfl,rfl,hm2,h99,Hle.out,Hh.out,G7.out⟩
      case measure=>simp only [intOf];omega
     ·have hc:¬cT (Y*m) T<=0:=fun h=>hle (DW.1 h)
      have Hle:=hid hle
      clear hle
      generalize cT (Y*m) T=cv at *
      go_wp2_with fail
      go_roundw
      case rel=>exact ⟨l,m-1,rfl,int_eq (by omega),by omega,by omega,Hl.out,by show _<_;rw [show m-1+1=m by omega];have:=Hle.out;omega,G7.out⟩
      case measure=>simp only [intOf];omega
    ·obtain rfl:l=h:=by omega
     have f1:wr.frozen? ⟨w.heap.size,k,none⟩=false:=ru.out.frozen _
     have c1:wr.cell? ⟨w.heap.size,k,none⟩=some (.int .i64 (nth Z k)):=ru.out.cell (by omega)
     have Xn:=hid (vN (t:=l) (v:=.int .i64 l) Zl.out ru.out (hj:=(show k<n by omega)) rfl)
     have G6:=hid (cK G5.out (bV wr w.heap.size k (.int .i64 l)) (Nat.le_refl _))
     have Hy6:=hid (Hy.out.grown G6.out (.inl rfl))
     have vO:=hid (St5.out.grown (bV wr w.heap.size k (.int .i64 l)) (.inr (fun e=>by have:=Va.out _ e;omega)))
     clear St5 Hy5 ru St
     go_wp2_with fail
     have sw:w.heap.size<(wr.setCell { block:=w.heap.size,off:=k } (Value.int IntKind.i64 l)).heap.size:=by simpa using s5
     generalize wr.setCell { block:=w.heap.size,off:=k } (Value.int IntKind.i64 l)=w6 at *
     refine (oC l 0 Hy6.out (by omega)).mono ?_
     rintro e w7 ⟨v7,rfl,ho7,g7⟩
     rw [Nat.add_zero] at ho7
     have Ho7:=hid ho7
     have G7:=hid (aR G6.out g7)
     have St7:=hid (vO.out.grown g7 (.inl rfl))
     have Xo:=hid (Xn.out.grown g7 (by simp))
     have s7:=g7.size
     have lT:=hid (show (am 10000 T).length<=4000000 from by
      have e1:=oE (b:=10000) (Nat.le_of_lt hTl)
      have e2:=Xj Y
      omega)
     clear ho7 g7
     go_wp2_with fail
     refine (Er St7.out Ho7.out.sl lT.out Hl.out).mono ?_
     rintro e w8 ⟨v8,rfl,ho8,g8⟩
     have Ho8:=hid ho8
     have s8:=g8.size
     have G8:=hid (aR G7.out g8)
     have Xp:=hid (Xo.out.grown g8 (by simp))
     clear ho8 g8
     go_wp2_with fail
     go_roundw
     case rel=>
      refine ⟨k,T-Y*l,_,Z.set k l,by omega,rfl,rfl,?_,?_,Za.out.set (by omega) k,?_,Ho8.out.mono (by omega),Xp.out,G8.out,by omega⟩
      ·show _<_
       have h1:=Hh.out
       have h2:=Hl.out
       rw [Nat.mul_add] at h1
       omega
      ·show _=_
       rw [List.length_set,Zl.out]
      ·show _=_
       rw [nY _ (by rw [Zl.out];omega)]
       exact Xk Hv.out HT.out Hl.out (fa _ _ (by rw [Hn.out];omega))
     case measure=>simp [intOf]
theorem Xq (i:Nat):(am 10000 (2 ^ i)).length<=i+1:=by
 refine gl (by omega) _ _ ?_
 exact Nat.lt_of_lt_of_le (Nat.pow_lt_pow_right (a:=2) (by omega) (Nat.lt_succ_self i)) (Nat.pow_le_pow_left (by omega) _)
set_option maxHeartbeats 1000000 in
theorem Xr (n:Nat) (w:World) (hn:n<=1000000):Calls prog 74 #[.int .i64 n] w (jZ w (2 ^ n)):=by
 have OO:=hid (Et w 3 .i64 1 w.heap.size (Nat.le_refl _))
 have G0:=hid (bg w (.cells #[.int .i64 1] 3) none)
 go_enter func74,ntmps74
 go_wp2_with fail
 go_loopw [3,4] (fun o i wr=>∃k:Nat,k<=n∧i = .int .i64 k∧Own wr 3 .i64 w.heap.size o (am 10000 (2 ^ k))∧w.grownBy wr none) (fun _ i _=>(n-(intOf i).toNat))
 case atStart=>exact ⟨0,by omega,rfl,by rw [Nat.pow_zero,vD (by omega) (by omega)];exact OO.out,G0.out⟩
 case round=>
  obtain ⟨k,hk,rfl,ho,gr⟩:=hrel
  have Ho:=hid ho
  have Gr:=hid gr
  clear ho gr
  by_cases hlt:k<n
  ·have hl:=hid (Xq k)
   go_wp2_with fail
   refine (oC 2 0 Ho.out.sl (by have:=hl.out;omega)).mono ?_
   rintro e w4 ⟨v4,rfl,ho4,g4⟩
   have Ho4:=hid (ho4.mono Gr.out.size)
   have G4:=hid (aR Gr.out g4)
   clear ho4 g4
   go_wp2_with fail
   go_roundw
   case rel=>exact ⟨k+1,by omega,by go_num,by rw [Nat.pow_succ];exact Ho4.out,G4.out⟩
   case measure=>simp [intOf];omega
  ·obtain rfl:k=n:=by omega
   go_wp2_with fail
   go_ret
   exact ⟨_,rfl,Ho.out,Gr.out⟩
end Go.Proofs.YtbjfgffibepmkaaGreat
