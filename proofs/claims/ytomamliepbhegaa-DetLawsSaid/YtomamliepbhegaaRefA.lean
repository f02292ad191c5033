/- Package orreryref01: cut, mulAdd, small. Package orreryref01: small, FromN, ToN. Package orreryref01: ToN. Package orreryref01: CmpN. Package orreryref01: AddN. Package orreryref01: SubN. Package orreryref01: MulN. Package orreryref01: DivN. Package orreryref01: PowN, BitsN. -/
import Derived.Test.YtomamliepbhegaaLimbL
set_option maxRecDepth 100000
namespace Go.Proofs.Ytomamliepbhegaa
open Go.RowKit
theorem GL (b off n cap:Nat) (xs:List Nat) (w:World) (hn:n<=xs.length) (hcap:n<=cap) (hm:cap<=9223372036854775807)
  (hc:∀j,j<xs.length->w.cell? ⟨b,off+j,none⟩=some (.int .i64 (nth xs j))) :
  Calls Try.prog 94 #[.slice (some ⟨b,off,none⟩) n cap] w fun e w'=>e = .returned (.slice (some ⟨b,off,none⟩) (cH xs n) cap)∧w=w':=by
 go_enter Try.func94,Try.ntmps94
 go_wp2
 go_loop [3] (fun v=>∃k:Nat,k<=n∧v = .int .i64 k∧cH xs k=cH xs n) (fun v=>(intOf v).toNat)
 case atStart=>exact ⟨n,by omega,rfl,rfl⟩
 case round=>
  obtain ⟨k,hk,rfl,ht⟩:=hrel
  have HT:=Lib.hid ht
  clear ht
  cases k with
  | zero=>
   go_wp2
   go_ret
   exact ⟨by rw [<- HT.out];rfl,rfl⟩
  | succ k=>
   have hcell:=hc k (by omega)
   clear hc
   have hkc:k<=cap:=by omega
   by_cases h0:nth xs k=0
   ·have hb:=sN h0
    have HZ:=Lib.hid h0
    clear h0
    go_wp2
    go_round
    case rel=>exact ⟨k,by omega,by go_num,by rw [<- HT.out];simp [cH,HZ.out]⟩
    case measure=>simp [intOf];try omega
   ·have hb:=sO h0
    go_wp2
    go_ret
    exact ⟨by rw [<- HT.out];simp [cH,h0],rfl⟩
set_option maxHeartbeats 400000 in
theorem GM (p:Option Addr) (cap:Nat) (w:World) :
  Calls Try.prog 94 #[.slice p 0 cap] w fun e w'=>e = .returned (.slice p 0 cap)∧w=w':=by
 go_enter Try.func94,Try.ntmps94
 go_wp2
 refine wp_loop_rounds 1 ?_
 rw [rounds_succ]
 go_wp2
 go_ret
 exact ⟨rfl,rfl⟩
theorem iW (p:Option Addr) (n cap:Nat) (xs:List Nat) (w:World) (h:Sl w .i64 (.slice p n cap) xs) :
  Calls Try.prog 94 #[.slice p n cap] w fun e w'=>e = .returned (.slice p (trim xs).length cap)∧w=w':=by
 obtain ⟨p',cap',e,h1,h2,h3⟩:=h
 simp only [Value.slice.injEq] at e
 obtain ⟨rfl,rfl,rfl⟩:=e
 rw [cU]
 rcases h3 with rfl | ⟨b,off,rfl,h4,h5⟩
 ·exact GM _ _ _
 ·exact GL b off xs.length cap xs w (Nat.le_refl _) h1 h2 h5
theorem Own.slice {w:World}{e:TypeId}{k:IntKind}{B:Nat}{v:Value}{xs:List Nat} (h:Own w e k B v xs):∃p cap,v = .slice p xs.length cap:=by
 obtain ⟨p,cap,rfl,-⟩:=h.sl
 exact ⟨p,cap,rfl⟩
def gk (w:World) (X:Nat) (e:Ending) (w':World):Prop:=Made 3 .i64 w (ak 10000 X) e w'
theorem GN {xs:List Nat}{m c0 k:Nat} (hk:xs.length<=k) (h0:chC 10000 (fun j=>nth xs j*m) c0 k=0):val 10000 (pre (eQ 10000 (fun j=>nth xs j*m) c0) k)=val 10000 xs*m+c0:=by
 have:=te 10000 (fun j=>nth xs j*m) c0 k
 rw [h0,val_mul,dU _ _ hk] at this
 omega
set_option maxHeartbeats 1000000 in
theorem GO {v:Value}{xs:List Nat}{w:World} (m c0:Nat) (hx:Sl w .i64 v xs) (ax:All 10000 xs) (hm:m<=65536) (hc:c0<=65536) (hlen:xs.length<=8796093022208) :
  Calls Try.prog 83 #[v,.int .i64 m,.int .i64 c0] w (gk w (val 10000 xs*m+c0)):=by
 obtain ⟨p,cap,rfl,h1,h2,h3⟩:=id hx
 obtain ⟨i0,hi,hz0,hz1,hz2⟩:=info_parts Try.infoI
 obtain ⟨n,hn⟩:∃n,xs.length=n:=⟨_,rfl⟩
 have Cb:=Lib.hid (fun k=>tc (b:=10000) (m:=65537) (s:=fun j=>nth xs j*m) (c0:=c0) (fun j=>by
  have b1:nth xs j<=9999:=by have:=KV (by omega) ax j;omega
  have:=Nat.mul_le_mul b1 hm
  show nth xs j*m+65537<=_
  omega) (by omega) k)
 rw [hn] at hlen h1 ⊢
 have Hx:=Lib.hid hx
 have Ax:=Lib.hid ax
 have H3:=Lib.hid h3
 have Hn:=Lib.hid hn
 clear hx ax h3 hn
 go_enter Try.func83,Try.ntmps83
 go_wp2_with (at_make;refine fQ rfl _ _ 59 rfl 3 i0 (.int .i64 0) Try.underlying59 hi hz0 hz1 (by omega) rfl _ _ _ _ 0 (n+2) rfl rfl (by omega) (by omega) (by omega) (by omega) ?_;intro w1 r1 g1 s1;have R1:=Lib.hid r1;have G1:=Lib.hid g1;clear r1 g1)
 go_loopw [2,7,8] (fun cv o i wr=>∃k:Nat,i = .int .i64 k∧cv = .int .i64 (chC 10000 (fun j=>nth xs j*m) c0 k:Nat)∧k+chC 10000 (fun j=>nth xs j*m) c0 k<=n+65537∧Own wr 3 .i64 w.heap.size o (pre (eQ 10000 (fun j=>nth xs j*m) c0) k)∧w.grownBy wr none∧w.heap.size<wr.heap.size) (fun cv _ i _=>(n-(intOf i).toNat)*100000+(intOf cv).toNat)
 case atStart=>
  refine ⟨0,rfl,rfl,by show 0+c0<=_;omega,.inr ⟨w.heap.size,n+2,_,rfl,Nat.le_refl _,R1.out,by simp [pre],by omega,fun j hj=>by simp [pre] at hj⟩,G1.out,by omega⟩
 case round=>
  obtain ⟨k,rfl,rfl,hk,ho,gr,sr⟩:=hrel
  have cb:=Cb.out k
  have cb':=Cb.out (k+1)
  have HC:=Lib.hid (show chC 10000 (fun j=>nth xs j*m) c0 (k+1)=(chC 10000 (fun j=>nth xs j*m) c0 k+nth xs k*m) / 10000 from rfl)
  have HD:=Lib.hid (show pre (eQ 10000 (fun j=>nth xs j*m) c0) (k+1)=pre (eQ 10000 (fun j=>nth xs j*m) c0) k ++ [(chC 10000 (fun j=>nth xs j*m) c0 k+nth xs k*m) % 10000] from Mj _ _)
  obtain ⟨Z,hZ⟩:∃Z,pre (eQ 10000 (fun j=>nth xs j*m) c0) k=Z:=⟨_,rfl⟩
  have zl:Z.length=k:=by rw [<- hZ,cO]
  rw [hZ] at HD ho
  have HZ:=Lib.hid hZ
  have Ho:=Lib.hid ho
  have Gr:=Lib.hid gr
  have Zl:=Lib.hid zl
  obtain ⟨op,cK,rfl⟩:=ho.slice
  rw [zl] at Ho
  generalize hcr:chC 10000 (fun j=>nth xs j*m) c0 k=cr at *
  have Hcr:=Lib.hid hcr
  generalize hcs:chC 10000 (fun j=>nth xs j*m) c0 (k+1)=cs at *
  have Hcs:=Lib.hid hcs
  clear hZ ho gr hcr hcs
  rw [zl]
  clear zl
  by_cases hlt:k<n
  ·rcases H3.out with h3 | ⟨b,off,rfl,hbl,hy⟩
   ·have:=Hn.out;rw [h3] at this;simp at this;omega
   have c1:wr.cell? ⟨b,off+k,none⟩=some (.int .i64 (nth xs k)):=by
    rw [World.cell?_of_block (w:=w) (Gr.out.block b hbl (by simp)),hy k (by rw [Hn.out];omega)]
   clear hy
   have b1:nth xs k<10000:=Ax.out.nth (by rw [Hn.out];omega)
   have b2:nth xs k*m<=655350000:=by have:=Nat.mul_le_mul (show nth xs k<=9999 by omega) hm;omega
   obtain ⟨t,ht⟩:∃t,nth xs k*m=t:=⟨_,rfl⟩
   rw [ht] at HC HD b2
   have ht':((nth xs k:Nat):Int)*(m:Int)=(t:Int):=by rw [<- ht,Int.natCast_mul]
   clear ht
   go_wp2_with (at_builtin;refine eY rfl _ _ 59 rfl 3 i0 (.int .i64 0) .i64 Try.underlying59 hi hz0 hz1 (by omega) rfl w.heap.size (.slice op k cK) Z ((cr+t) % 10000) rfl (Ho.out.grown (KQ _ _ none) (.inl rfl)) wr.heap.size rfl ?c1 (by rw [Zl.out];omega) (by simp;omega) ?_;(case c1=>exact (World.cell?_alloc_at _ _ _ _ rfl).trans (by simp));intro v' w3 ho3 g3;have ch:=Lib.hid ho3;have G3:=Lib.hid (fg (v:=.slice op k cK) g3 (Ho.out.grown (KQ _ _ none) (.inl rfl)) (be Gr.out (KQ _ _ _)));have s3:=g3.size;clear ho3 g3)
   go_roundw
   case rel=>exact ⟨k+1,by go_num,int_eq (by rw [Hcs.out,HC.out];omega),by rw [Hcs.out];omega,by rw [HD.out];exact ch.out,G3.out,by simp at s3;omega⟩
   case measure=>
    have h:=HC.out
    have h2:(((cr:Int)+(t:Int)) / 10000)=((cs:Nat):Int):=by omega
    rw [h2]
    simp only [intOf]
    omega
  ·have y0:nth xs k=0:=dR xs (by rw [Hn.out];omega)
   rw [y0] at HC HD
   have hC:=HC.out
   clear y0
   by_cases hcr:cr=0
   ·subst hcr
    go_wp2_with fail
    refine (iW _ _ _ Z _ Ho.out.sl).mono ?_
    rintro e w' ⟨rfl,rfl⟩
    go_wp2_with fail
    go_ret
    have e:=GN (m:=m) (c0:=c0) (by rw [Hn.out];omega) Hcr.out
    rw [HZ.out] at e
    have az:All 10000 Z:=by rw [<- HZ.out];exact ga (fun j _=>td (by omega) _ _ _)
    refine ⟨_,rfl,?_,Gr.out⟩
    rw [<- e,<- dQ (by omega) az]
    exact (Zl.out▸Ho.out:Own wr 3 .i64 w.heap.size (.slice op Z.length cK) Z).trim
   ·have hcp:0<cr:=by omega
    go_wp2_with (at_builtin;refine eY rfl _ _ 59 rfl 3 i0 (.int .i64 0) .i64 Try.underlying59 hi hz0 hz1 (by omega) rfl w.heap.size (.slice op k cK) Z (cr % 10000) rfl (Ho.out.grown (KQ _ _ none) (.inl rfl)) wr.heap.size rfl ?c1 (by rw [Zl.out];omega) (by simp;omega) ?_;(case c1=>exact (World.cell?_alloc_at _ _ _ _ rfl).trans (by simp));intro v' w3 ho3 g3;have ch:=Lib.hid ho3;have G3:=Lib.hid (fg (v:=.slice op k cK) g3 (Ho.out.grown (KQ _ _ none) (.inl rfl)) (be Gr.out (KQ _ _ _)));have s3:=g3.size;clear ho3 g3)
    go_roundw
    case rel=>exact ⟨k+1,by go_num,int_eq (by rw [Hcs.out,HC.out];omega),by rw [Hcs.out];omega,by rw [HD.out];simpa using ch.out,G3.out,by simp at s3;omega⟩
    case measure=>simp only [intOf];omega
theorem uY {X k:Nat} (h:Bd X k):(ak 10000 X).length<=3*k:=by
 refine eR (by omega) _ X ?_
 rw [Nat.pow_mul]
 exact Nat.lt_of_lt_of_le h (Nat.pow_le_pow_left (by omega) k)
def uZ (w:World) (X:Nat) (e:Ending) (w':World):Prop:=
 ∃v,e = .returned (.tuple #[v,.int .i64 ((X % 65536:Nat):Int)])∧Own w' 3 .i64 w.heap.size v (ak 10000 (X / 65536))∧w.grownBy w' none
set_option maxHeartbeats 1000000 in
theorem GP {v:Value}{xs:List Nat}{w:World} (hx:Sl w .i64 v xs) (ax:All 10000 xs) (hlen:xs.length<=8796093022208) :
  Calls Try.prog 81 #[v,.int .i64 65536] w (uZ w (val 10000 xs)):=by
 obtain ⟨p,cap,rfl,h1,h2,h3⟩:=id hx
 obtain ⟨i0,hi,hz0,hz1,hz2⟩:=info_parts Try.infoI
 have Hx:=Lib.hid hx
 have Ax:=Lib.hid ax
 have H3:=Lib.hid h3
 clear hx ax h3
 obtain ⟨n,hn⟩:∃n,xs.length=n:=⟨_,rfl⟩
 rw [hn] at hlen h1 ⊢
 have Hn:=Lib.hid hn
 clear hn
 go_enter Try.func81,Try.ntmps81
 go_wp2_with (at_make;refine fQ rfl _ _ 59 rfl 3 i0 (.int .i64 0) Try.underlying59 hi hz0 hz1 (by omega) rfl _ _ _ _ n n rfl rfl (by omega) (by omega) (Nat.le_refl _) (by omega) ?_;intro w1 r1 g1 s1;have R1:=Lib.hid r1;have G1:=Lib.hid g1;clear r1 g1)
 go_loopw [7,8] (fun cv i wr=>∃(k r:Nat) (q:Int) (Z:List Nat),k<=n∧i = .int .i64 q∧q=(k:Int)-1∧cv = .int .i64 r∧r<65536∧Z.length=n∧All 10000 Z ∧
   val 10000 (xs.drop k)=val 10000 (Z.drop k)*65536+r∧aO wr 3 w.heap.size n (fun j=>.int .i64 (nth Z j))∧w.grownBy wr none∧w.heap.size<wr.heap.size) (fun _ i _=>(intOf i+1).toNat)
 case atStart=>
  refine ⟨n,0,_,List.replicate n 0,by omega,rfl,rfl,rfl,by omega,by simp,All.iL (by omega) _,?_,R1.out.congr fun j hj=>by simp [nth,hj],G1.out,by omega⟩
  rw [List.drop_of_length_le (by rw [Hn.out];omega),List.drop_replicate,gO]
  simp [val]
 case round=>
  obtain ⟨k,r,q,Z,hk,rfl,hq,rfl,hr,zl,za,hv,rr,gr,sr⟩:=hrel
  have Zl:=Lib.hid zl
  have Za:=Lib.hid za
  have Hv:=Lib.hid hv
  have Gr:=Lib.hid gr
  cases k with
  | zero=>
   obtain rfl:q = -1:=by omega
   have ho:Own wr 3 .i64 w.heap.size (.slice (some ⟨w.heap.size,0,none⟩) n n) Z:=
    .inr ⟨w.heap.size,_,_,by rw [zl],Nat.le_refl _,rr,by omega,by omega,fun j _=>rfl⟩
   have Ho:=Lib.hid ho
   clear ho zl za hv gr rr hq
   go_wp2_with fail
   refine (iW _ _ _ Z _ Ho.out.sl).mono ?_
   rintro e w'' ⟨rfl,rfl⟩
   go_wp2_with fail
   go_ret2
   have hv:=Hv.out
   simp only [List.drop_zero] at hv
   have e1:val 10000 xs / 65536=val 10000 Z:=by omega
   have e2:val 10000 xs % 65536=r:=by omega
   refine ⟨_,by rw [e2];rfl,?_,Gr.out⟩
   rw [e1,<- dQ (by omega) Za.out]
   exact Ho.out.trim
  | succ k=>
   obtain rfl:q=(k:Int):=by omega
   rcases H3.out with h3 | ⟨b,off,rfl,hbl,hy⟩
   ·have:=Hn.out;rw [h3] at this;simp at this;omega
   have c1:wr.cell? ⟨b,off+k,none⟩=some (.int .i64 (nth xs k)):=by
    rw [World.cell?_of_block (w:=w) (gr.block b hbl (by simp)),hy k (by rw [Hn.out];omega)]
   have b1:nth xs k<10000:=Ax.out.nth (by rw [Hn.out];omega)
   have f1:wr.frozen? ⟨w.heap.size,k,none⟩=false:=rr.frozen _
   have c2:wr.cell? ⟨w.heap.size,k,none⟩=some (.int .i64 (nth Z k)):=rr.cell (by omega)
   have i1:(k:Int)<(n:Int):=by omega
   have Rr:=Lib.hid rr
   clear hy zl za hv gr rr hq
   go_wp2
   go_roundw
   case rel=>
    refine ⟨k,(r*10000+nth xs k) % 65536,_,Z.set k ((r*10000+nth xs k) / 65536),by omega,rfl,rfl,int_eq (by omega),by omega,by rw [List.length_set,Zl.out],Za.out.set (by omega) k,?_,?_,cW Gr.out (cF _ _ _ _) (Nat.le_refl _),by simpa using sr⟩
    ·rw [lQ _ (by rw [Zl.out];omega),fG _ _ (by rw [Hn.out];omega),Hv.out]
     omega
    ·refine (aO.set Rr.out k _).congr fun j hj=>?_
     by_cases hjk:j=k
     ·subst hjk
      rw [iq,lP _ (by rw [Zl.out];omega)]
      exact int_eq (by omega)
     ·rw [upd_ne _ _ hjk,oc _ _ hjk]
   case measure=>simp [intOf]
theorem km {v:Value}{X:Nat}{w:World} (m c0:Nat) (hx:Sl w .i64 v (ak 10000 X)) (hm:m<=65536) (hc:c0<=65536) (hlen:(ak 10000 X).length<=8796093022208) :
  Calls Try.prog 83 #[v,.int .i64 m,.int .i64 c0] w (gk w (X*m+c0)):=by
 have:=GO m c0 hx (Lg (by omega) _) hm hc hlen
 rwa [cT (by omega)] at this
theorem MQ {v:Value}{X:Nat}{w:World} (hx:Sl w .i64 v (ak 10000 X)) (hlen:(ak 10000 X).length<=8796093022208) :
  Calls Try.prog 81 #[v,.int .i64 65536] w (uZ w X):=by
 have:=GP hx (Lg (by omega) _) hlen
 rwa [cT (by omega)] at this
theorem GQ {X m c0 k:Nat} (h:(ak 10000 X).length<=k) (hm:m<=65536) (hc:c0<=65535):(ak 10000 (X*m+c0)).length<=k+2:=by
 have h1:=gh (b:=10000) (by omega) X
 have h2:=Nat.lt_of_lt_of_le h1 (Nat.pow_le_pow_right (n:=10000) (by omega) h)
 refine eR (by omega) _ _ ?_
 rw [Nat.pow_add]
 generalize 10000 ^ k=T at *
 have:X*m<=X*65536:=Nat.mul_le_mul_left _ hm
 omega
set_option maxHeartbeats 1000000 in
theorem GR {v:Value}{xs:List Nat}{w:World} (hx:Sl w .u32 v xs) (ax:All 4294967296 xs) (hlen:xs.length<=1000000) :
  Calls Try.prog 78 #[v] w (gk w (val 4294967296 xs)):=by
 obtain ⟨p,cap,rfl,h1,h2,h3⟩:=id hx
 have Hx:=Lib.hid hx
 have Ax:=Lib.hid ax
 have H3:=Lib.hid h3
 clear hx ax h3
 obtain ⟨n,hn⟩:∃n,xs.length=n:=⟨_,rfl⟩
 rw [hn] at hlen h1 ⊢
 have Hn:=Lib.hid hn
 clear hn
 go_enter Try.func78,Try.ntmps78
 go_wp2_with fail
 go_loopw [3,4] (fun o i wr=>∃(k:Nat) (q:Int),k<=n∧i = .int .i64 q∧q=(k:Int)-1∧Own wr 3 .i64 w.heap.size o (ak 10000 (val 4294967296 (xs.drop k)))∧w.grownBy wr none) (fun _ i _=>(intOf i+1).toNat)
 case atStart=>
  refine ⟨n,_,by omega,rfl,rfl,?_,ba _ _⟩
  rw [List.drop_of_length_le (by rw [Hn.out];omega)]
  exact Own.nil _ _ _ _
 case round=>
  obtain ⟨k,q,hk,rfl,hq,ho,gr⟩:=hrel
  have Gr:=Lib.hid gr
  have Ho:=Lib.hid ho
  cases k with
  | zero=>
   obtain rfl:q = -1:=by omega
   clear ho gr hq
   go_wp2_with fail
   go_ret
   exact ⟨_,rfl,by simpa using Ho.out,Gr.out⟩
  | succ k=>
   obtain rfl:q=(k:Int):=by omega
   rcases H3.out with h3 | ⟨b,off,rfl,hbl,hy⟩
   ·have:=Hn.out;rw [h3] at this;simp at this;omega
   have c1:wr.cell? ⟨b,off+k,none⟩=some (.int .u32 (nth xs k)):=by
    rw [World.cell?_of_block (w:=w) (gr.block b hbl (by simp)),hy k (by rw [Hn.out];omega)]
   have b1:nth xs k<4294967296:=Ax.out.nth (by rw [Hn.out];omega)
   have i1:(k:Int)<(n:Int):=by omega
   have Hy:=Lib.hid hy
   obtain ⟨X,hX⟩:∃X,val 4294967296 (xs.drop (k+1))=X:=⟨_,rfl⟩
   have HX:=Lib.hid hX
   rw [hX] at Ho
   have Hln:=Lib.hid (show (ak 10000 X).length<=3*n by
    rw [<- hX]
    exact uY (Bd.of (Ax.out.drop (k+1)) (by rw [List.length_drop,Hn.out];omega)))
   clear hX ho gr hy hq
   go_wp2_with fail
   refine (km 65536 (nth xs k / 65536) Ho.out.sl (by omega) (by omega) (by have:=Hln.out;omega)).mono ?_
   rintro e w2 ⟨v2,rfl,ho2,g2⟩
   have Ho2:=Lib.hid ho2
   have G2:=Lib.hid (be Gr.out g2)
   have sg:=Gr.out.size
   have Hl2:=Lib.hid (GQ (m:=65536) (c0:=nth xs k / 65536) Hln.out (by omega) (by omega))
   have c2:w2.cell? ⟨b,off+k,none⟩=some (.int .u32 (nth xs k)):=by
    rw [World.cell?_of_block (w:=w) (G2.out.block b hbl (by simp)),Hy.out k (by rw [Hn.out];omega)]
   clear ho2 g2 c1
   go_wp2_with fail
   refine (km 65536 (nth xs k % 65536) Ho2.out.sl (by omega) (by omega) (by have:=Hl2.out;omega)).mono ?_
   rintro e w3 ⟨v3,rfl,ho3,g3⟩
   have ch:=Lib.hid ho3
   have G3:=Lib.hid (be G2.out g3)
   have sg2:=G2.out.size
   clear ho3 g3
   go_wp2_with fail
   go_roundw
   case rel=>
    refine ⟨k,_,by omega,rfl,rfl,?_,G3.out⟩
    rw [fG _ _ (by rw [Hn.out];omega),HX.out]
    have e:(X*65536+nth xs k / 65536)*65536+nth xs k % 65536=nth xs k+4294967296*X:=by omega
    rw [<- e]
    exact ch.out.mono (by omega)
   case measure=>simp [intOf]
theorem GS {w w':World}{e e':TypeId}{k k':IntKind}{B B':Nat}{v u:Value}{xs ys:List Nat} (h:Own w e k B v xs) (h':Own w' e' k' B' u ys) (hs:w'.heap.size<=B):u.ownBlock=none∨v.ownBlock≠u.ownBlock:=by
 cases hu:u.ownBlock with
 | none=>exact .inl rfl
 | some g=>
  right
  intro e
  have:=(h.lt g e).1
  have:=(h'.lt g hu).2
  omega
theorem ko {b m n:Nat} (hb:2<=b) (h:m<=n):(ak b m).length<=(ak b n).length:=
 eR hb _ _ (Nat.lt_of_le_of_lt h (gh hb n))
theorem GT {n:Nat} (h:0<n):(ak 10000 (n / 4294967296)).length<(ak 10000 n).length:=by
 have h1:=eS (b:=10000) (by omega) h
 have h2:=ko (b:=10000) (by omega) (show n / 4294967296<=n / 10000 by omega)
 rw [h1]
 simp
 omega
theorem GU {X Y j:Nat} (hY:Y=X / 4294967296 ^ j) (h:0<Y):(ak 4294967296 X).take j ++ [Y % 4294967296]=(ak 4294967296 X).take (j+1)∧j<(ak 4294967296 X).length:=by
 have hj:j<(ak 4294967296 X).length:=by
  rcases Nat.lt_or_ge j (ak 4294967296 X).length with hh | hh
  ·exact hh
  ·have h1:=gh (b:=4294967296) (by omega) X
   have h2:X<4294967296 ^ j:=Nat.lt_of_lt_of_le h1 (Nat.pow_le_pow_right (by omega) hh)
   rw [Nat.div_eq_of_lt h2] at hY
   omega
 refine ⟨?_,hj⟩
 rw [uD _ hj,Ov (by omega),<- hY]
theorem GV {X j:Nat} (hY:0=X / 4294967296 ^ j):(ak 4294967296 X).take j=ak 4294967296 X:=by
 refine List.take_of_length_le (eR (by omega) _ _ ?_)
 rcases Nat.lt_or_ge X (4294967296 ^ j) with h | h
 ·exact h
 ·have:=Nat.div_pos h (Nat.pow_pos (by omega))
  omega
set_option maxHeartbeats 1000000 in
theorem GW {v:Value}{X:Nat}{w:World} (hx:Sl w .i64 v (ak 10000 X)) (hlen:(ak 10000 X).length<=4000000) :
  Calls Try.prog 53 #[v] w (Made 85 .u32 w (ak 4294967296 X)):=by
 obtain ⟨p,cap,rfl,-⟩:=id hx
 obtain ⟨i0,hi,hz0,hz1,hz2⟩:=info_parts Try.infoU
 obtain ⟨L,hL⟩:∃L,(ak 10000 X).length=L:=⟨_,rfl⟩
 have Lx:=Lib.hid (show (ak 4294967296 X).length<=(ak 10000 X).length from eR (by omega) _ _ (Nat.lt_of_lt_of_le (gh (b:=10000) (by omega) X) (Nat.pow_le_pow_left (by omega) _)))
 rw [hL] at hx hlen Lx ⊢
 have Hx:=Lib.hid hx
 have HL:=Lib.hid hL
 clear hx hL
 go_enter Try.func53,Try.ntmps53
 go_wp2_with fail
 go_loopw [0,3] (fun av o wr=>∃(j Y:Nat),Hid (Y=X / 4294967296 ^ j)∧(ak 10000 Y).length<=L∧Sl wr .i64 av (ak 10000 Y)∧Own wr 85 .u32 w.heap.size o ((ak 4294967296 X).take j)∧w.grownBy wr none) (fun av _ _=>lenOf av)
 case atStart=>
  refine ⟨0,X,by show X=_;simp,by rw [HL.out];omega,Hx.out,Own.nil _ _ _ _,ba _ _⟩
 case round=>
  obtain ⟨j,Y,hY,hl,ha,ho,gr⟩:=hrel
  obtain ⟨ap,KM,rfl,-⟩:=id ha
  obtain ⟨op,cK,rfl⟩:=ho.slice
  have Ha:=Lib.hid ha
  have Ho:=Lib.hid ho
  have Gr:=Lib.hid gr
  by_cases h0:Y=0
  ·subst h0
   clear ha ho gr
   have e:=ff 10000
   rw [e] at Ha ⊢
   rw [GV hY.out] at Ho ⊢
   clear e
   go_wp2_with fail
   go_ret
   exact ⟨_,rfl,Ho.out,Gr.out⟩
  ·have hp:0<Y:=by omega
   have hl0:0<(ak 10000 Y).length:=by
    have:=fb (b:=10000) (n:=Y) (by omega)
    omega
   have Td:=Lib.hid (GU hY.out hp)
   have Dn:=Lib.hid (GT hp)
   have Dm:=Lib.hid (show (ak 10000 (Y / 65536)).length<=L from Nat.le_trans (ko (by omega) (Nat.div_le_self _ _)) hl)
   obtain ⟨LY,Mn⟩:∃LY,(ak 10000 Y).length=LY:=⟨_,rfl⟩
   have HLY:=Lib.hid Mn
   rw [Mn] at hl0 hl Ha ⊢
   obtain ⟨Z,hZ⟩:∃Z,(ak 4294967296 X).take j=Z:=⟨_,rfl⟩
   have HZ:=Lib.hid hZ
   rw [hZ] at Ho ⊢
   have zl:Z.length<=L:=by
    rw [<- hZ,List.length_take]
    have:=Lx.out
    omega
   clear ha ho gr h0 Mn hZ
   go_wp2_with fail
   refine (MQ Ha.out (by rw [HLY.out];omega)).mono ?_
   rintro e w2 ⟨v2,rfl,ho2,g2⟩
   have Ho2:=Lib.hid ho2
   have G2:=Lib.hid (be Gr.out g2)
   have OO:=Lib.hid (Ho.out.grown g2 (.inl rfl))
   clear ho2 g2
   go_wp2_with fail
   refine (MQ Ho2.out.sl (by have:=Dm.out;omega)).mono ?_
   rintro e w3 ⟨v3,rfl,ho3,g3⟩
   have ch:=Lib.hid ho3
   have G3:=Lib.hid (be G2.out g3)
   have va:=Lib.hid (OO.out.grown g3 (.inl rfl))
   clear ho3 g3
   have oa:=GS ch.out OO.out (Nat.le_refl _)
   have OB:=Lib.hid (show w.heap.size<=w3.heap.size from G3.out.size)
   have Oa:=Lib.hid oa
   clear oa
   go_wp2_with (at_builtin;refine eY rfl _ _ 64 rfl 85 i0 (.int .u32 0) .u32 Try.underlying64 hi hz0 hz1 (by omega) rfl w.heap.size (.slice op Z.length cK) Z (Y % 4294967296) rfl (va.out.grown (KQ _ _ none) (.inl rfl)) w3.heap.size rfl ?c1 (by omega) (by have:=OB.out;simp;omega) ?_;(case c1=>exact (World.cell?_alloc_at _ _ _ _ rfl).trans (by simp;omega));intro v' w4 ho4 g4;have Ho4:=Lib.hid ho4;have G4:=Lib.hid (fg (v:=.slice op Z.length cK) g4 (va.out.grown (KQ _ _ none) (.inl rfl)) (be G3.out (KQ _ _ _)));have A4:=Lib.hid ((ch.out.sl.grown (KQ _ _ none) (.inl rfl)).grown g4 Oa.out);clear ho4 g4)
   go_roundw
   case rel=>
    refine ⟨j+1,Y / 4294967296,?_,?_,?_,?_,G4.out⟩
    ·show _=_
     rw [hY.out,Nat.pow_succ,Nat.div_div_eq_div_mul]
    ·have:=Dn.out;have:=HLY.out;omega
    ·have e:Y / 65536 / 65536=Y / 4294967296:=by omega
     rw [<- e];exact A4.out
    ·rw [<- Td.out.1,HZ.out];exact Ho4.out
   case measure=>
    obtain ⟨p3,sY,rfl⟩:=ch.out.slice
    have:=Dn.out
    have:=HLY.out
    have e:Y / 65536 / 65536=Y / 4294967296:=by omega
    simp only [lenOf,e]
    omega
def ks (w:World) (r:Int) (e:Ending) (w':World):Prop:=e = .returned (.int .i64 r)∧∃n,w'=w.drewN n
set_option maxHeartbeats 400000 in
theorem GX (p q:Option Addr) (n m cap cap':Nat) (w:World) (h:n<m) :
  Calls Try.prog 96 #[.slice p n cap,.slice q m cap'] w (ks w (-1)):=by
 go_enter Try.func96,Try.ntmps96
 go_wp2
 go_ret
 exact ⟨rfl,0,rfl⟩
set_option maxHeartbeats 400000 in
theorem GY (p q:Option Addr) (n m cap cap':Nat) (w:World) (h:m<n) :
  Calls Try.prog 96 #[.slice p n cap,.slice q m cap'] w (ks w 1):=by
 go_enter Try.func96,Try.ntmps96
 go_wp2
 go_ret
 exact ⟨rfl,0,rfl⟩
set_option maxHeartbeats 400000 in
theorem vb (p q:Option Addr) (cap cap':Nat) (w:World) :
  Calls Try.prog 96 #[.slice p 0 cap,.slice q 0 cap'] w (ks w 0):=by
 go_enter Try.func96,Try.ntmps96
 go_wp2
 refine wp_loop_rounds 1 ?_
 rw [rounds_succ]
 go_wp2
 go_ret
 exact ⟨rfl,0,rfl⟩
set_option maxHeartbeats 400000 in
theorem GZ (b off cap b' off' cap':Nat) (a c:List Nat) (w:World) (heq:a.length=c.length) (hlen:a.length<=9223372036854775807)
  (hca:∀j,j<a.length->w.cell? ⟨b,off+j,none⟩=some (.int .i64 (nth a j))) (hcc:∀j,j<c.length->w.cell? ⟨b',off'+j,none⟩=some (.int .i64 (nth c j))) (all:All 10000 a) (all':All 10000 c) :
  Calls Try.prog 96 #[.slice (some ⟨b,off,none⟩) a.length cap,.slice (some ⟨b',off',none⟩) a.length cap'] w (ks w (bZ (val 10000 a) (val 10000 c))):=by
 have He:=Lib.hid heq
 have L1:a.length<=c.length:=by omega
 have L2:c.length<=a.length:=by omega
 have Al:=Lib.hid all
 have nV:=Lib.hid all'
 clear heq all all'
 go_enter Try.func96,Try.ntmps96
 go_wp2_with fail
 go_loopw [5] (fun i wr=>∃(k n:Nat) (q:Int),k<=a.length∧i = .int .i64 q∧q=(k:Int)-1∧wr=w.drewN n∧a.drop k=c.drop k) (fun i _=>(intOf i+1).toNat)
 case atStart=>exact ⟨a.length,0,_,Nat.le_refl _,rfl,rfl,rfl,by rw [List.drop_length,He.out,List.drop_length]⟩
 case round=>
  obtain ⟨k,d,q,hk,rfl,hq,rfl,hdr⟩:=hrel
  have HD:=Lib.hid hdr
  clear hdr
  cases k with
  | zero=>
   obtain rfl:q = -1:=by omega
   clear hq
   go_wp2
   go_ret
   refine ⟨?_,_,rfl⟩
   have:a=c:=by simpa using HD.out
   simp [bZ,this]
  | succ k=>
   obtain rfl:q=(k:Int):=by omega
   clear hq
   have ka:=hca k (by omega)
   have kc:=hcc k (by omega)
   clear hca hcc
   have b1:(k:Int)<(a.length:Int):=by omega
   by_cases hne:nth a k=nth c k
   ·have hb:(((nth a k:Nat):Int) != ((nth c k:Nat):Int))=false:=by rw [hne];simp
    have HE:=Lib.hid hne
    clear hne
    go_wp2
    go_quiet (fail)
    go_wp2
    go_roundw
    case rel=>exact ⟨k,_,_,by omega,rfl,rfl,rfl,by rw [jT a (by omega),jT c (by omega),HE.out,HD.out]⟩
    case measure=>simp [intOf]
   ·have hb:(((nth a k:Nat):Int) != ((nth c k:Nat):Int))=true:=by rw [bne_iff_ne];omega
    go_wp2
    go_quiet (fail)
    go_wp2
    have NM:((w.drewN d).drewN nq).cell? ⟨b,off+k,none⟩=some (.int .i64 (nth a k)):=ka
    have NN:((w.drewN d).drewN nq).cell? ⟨b',off'+k,none⟩=some (.int .i64 (nth c k)):=kc
    generalize hw2:(w.drewN d).drewN nq=w2 at *
    have lF:=Lib.hid hw2
    clear hw2
    have V1:=Lib.hid (fun h=>gN (lG (b:=10000) (show k<a.length by omega) (show k<c.length by omega) HD.out Al.out h))
    have V2:=Lib.hid (fun h=>lH (lG (b:=10000) (show k<c.length by omega) (show k<a.length by omega) HD.out.symm nV.out h))
    clear ka kc
    rcases Nat.lt_or_ge (nth a k) (nth c k) with h | h
    ·have hb2:decide (((nth a k:Nat):Int)<((nth c k:Nat):Int))=true:=decide_eq_true (by omega)
     go_quiet (fail)
     go_wp2
     go_ret
     obtain rfl:=lF.out
     exact ⟨eK (V1.out h).symm,_,by rw [World.drewN_drewN,World.drewN_drewN]⟩
    ·have hb2:decide (((nth a k:Nat):Int)<((nth c k:Nat):Int))=false:=decide_eq_false (by omega)
     have h':nth c k<nth a k:=by omega
     go_quiet (fail)
     go_wp2
     go_ret
     obtain rfl:=lF.out
     exact ⟨eK (V2.out h').symm,_,by rw [World.drewN_drewN,World.drewN_drewN]⟩
theorem vd {v u:Value}{X Y:Nat}{w:World} (hx:Sl w .i64 v (ak 10000 X)) (hy:Sl w .i64 u (ak 10000 Y)) :
  Calls Try.prog 96 #[v,u] w (ks w (bZ X Y)):=by
 obtain ⟨p,cap,rfl,h1,h2,h3⟩:=hx
 obtain ⟨p',cap',rfl,h1',h2',h3'⟩:=hy
 rcases Nat.lt_trichotomy (ak 10000 X).length (ak 10000 Y).length with h | h | h
 ·rw [gN (jU (by omega) h)]
  exact GX _ _ _ _ _ _ _ h
 ·rcases h3 with h3 | ⟨b,off,rfl,h4,h5⟩
  ·have hX:X=0:=(Mh (by omega)).1 h3
   have hY:Y=0:=by
    rw [h3] at h
    exact (fb (by omega)).1 h.symm
   subst hX
   subst hY
   rw [nX]
   exact vb _ _ _ _ _
  ·rcases h3' with h3' | ⟨b',off',rfl,h4',h5'⟩
   ·have hY:Y=0:=(Mh (by omega)).1 h3'
    have hX:X=0:=by
     rw [h3'] at h
     exact (fb (by omega)).1 h
    subst hX
    subst hY
    rw [nX]
    exact vb _ _ _ _ _
   ·have q:=GZ b off cap b' off' cap' (ak 10000 X) (ak 10000 Y) w h (by omega) h5 h5' (Lg (by omega) _) (Lg (by omega) _)
    rw [cT (by omega),cT (by omega)] at q
    rw [<- h]
    exact q
 ·rw [lH (jU (by omega) h)]
  exact GY _ _ _ _ _ _ _ h
theorem OF {X Y k:Nat} (hx:(ak 10000 X).length<=k) (hy:(ak 10000 Y).length<=k) (h0:bz 10000 (nth (ak 10000 X)) (nth (ak 10000 Y)) k=0)
  (hc:k=0∨k-1<(ak 10000 X).length∨k-1<(ak 10000 Y).length∨0<bz 10000 (nth (ak 10000 X)) (nth (ak 10000 Y)) (k-1)) :
  pre (cI 10000 (nth (ak 10000 X)) (nth (ak 10000 Y))) k=ak 10000 (X+Y):=by
 have hv:val 10000 (pre (cI 10000 (nth (ak 10000 X)) (nth (ak 10000 Y))) k)=X+Y:=by
  have:=lJ 10000 (nth (ak 10000 X)) (nth (ak 10000 Y)) k
  rw [h0,dU _ _ hx,dU _ _ hy,cT (by omega),cT (by omega)] at this
  omega
 have ha:All 10000 (pre (cI 10000 (nth (ak 10000 X)) (nth (ak 10000 Y))) k):=ga (fun j _=>nY (by omega) _ _ _)
 have ht:eP (pre (cI 10000 (nth (ak 10000 X)) (nth (ak 10000 Y))) k):=by
  refine sW ha ?_
  rw [hv,cO]
  rcases hc with rfl | hc
  ·exact .inl rfl
  right
  by_cases h1:k-1<(ak 10000 X).length
  ·have:=Mc (b:=10000) (n:=X) (by omega) (by omega)
   rw [show k-1=(ak 10000 X).length-1 by omega]
   omega
  by_cases h2:k-1<(ak 10000 Y).length
  ·have:=Mc (b:=10000) (n:=Y) (by omega) (by omega)
   rw [show k-1=(ak 10000 Y).length-1 by omega]
   omega
  have h3:0<bz 10000 (nth (ak 10000 X)) (nth (ak 10000 Y)) (k-1):=by
   rcases hc with hc | hc | hc
   ·exact absurd hc h1
   ·exact absurd hc h2
   ·exact hc
  have:=lJ 10000 (nth (ak 10000 X)) (nth (ak 10000 Y)) (k-1)
  rw [dU _ _ (by omega),dU _ _ (by omega),cT (by omega),cT (by omega)] at this
  have h4:=Nat.mul_le_mul_left (10000 ^ (k-1)) h3
  omega
 rw [<- hv,nZ (by omega) ha ht]
set_option maxHeartbeats 2000000 in
theorem Hf {v u:Value}{X Y:Nat}{w:World} (hx:Sl w .i64 v (ak 10000 X)) (hy:Sl w .i64 u (ak 10000 Y)) (lx:(ak 10000 X).length<=4000000) (ly:(ak 10000 Y).length<=4000000) :
  Calls Try.prog 95 #[v,u] w (gk w (X+Y)):=by
 have tp:=Lib.hid (fun k=>OF (X:=X) (Y:=Y) (k:=k))
 have ax:=Lib.hid (Lg (b:=10000) (by omega) X)
 have ay:=Lib.hid (Lg (b:=10000) (by omega) Y)
 obtain ⟨p,cap,rfl,h1,h2,h3⟩:=id hx
 obtain ⟨q,dh,rfl,h1',h2',h3'⟩:=id hy
 obtain ⟨i0,hi,hz0,hz1,hz2⟩:=info_parts Try.infoI
 generalize hdx:ak 10000 X=xs at *
 generalize hdy:ak 10000 Y=ys at *
 obtain ⟨n,hn⟩:∃n,xs.length=n:=⟨_,rfl⟩
 obtain ⟨m,hm⟩:∃m,ys.length=m:=⟨_,rfl⟩
 rw [hn] at lx h1 ⊢
 rw [hm] at ly h1' ⊢
 have H3:=Lib.hid h3
 have H3':=Lib.hid h3'
 have Hn:=Lib.hid hn
 have Hm:=Lib.hid hm
 clear h3 h3' hn hm hx hy hdx hdy h2 h2'
 have Cb:=Lib.hid (fun k=>sV (b:=10000) (f:=nth xs) (g:=nth ys) (KV (by omega) ax.out) (KV (by omega) ay.out) k)
 go_enter Try.func95,Try.ntmps95
 go_wp2_with fail
 go_loopw [5,6,7] (fun o cv i wr=>∃k:Nat,i = .int .i64 k∧cv = .int .i64 (bz 10000 (nth xs) (nth ys) k:Nat)∧k+bz 10000 (nth xs) (nth ys) k<=n+m+1∧Hid (k=0∨k-1<n∨k-1<m∨0<bz 10000 (nth xs) (nth ys) (k-1))∧Own wr 3 .i64 w.heap.size o (pre (cI 10000 (nth xs) (nth ys)) k)∧w.grownBy wr none) (fun _ _ i _=>(n+m+2-(intOf i).toNat))
 case atStart=>exact ⟨0,rfl,rfl,by simp [bz],.inl rfl,Own.nil _ _ _ _,ba _ _⟩
 case round=>
  obtain ⟨k,rfl,rfl,hk,hco,ho,gr⟩:=hrel
  obtain ⟨op,cK,rfl⟩:=ho.slice
  have cb:=Cb.out k
  have cb':=Cb.out (k+1)
  have HC:=Lib.hid (show bz 10000 (nth xs) (nth ys) (k+1)=(bz 10000 (nth xs) (nth ys) k+(nth xs k+nth ys k)) / 10000 from rfl)
  have HD:=Lib.hid (show pre (cI 10000 (nth xs) (nth ys)) (k+1)=pre (cI 10000 (nth xs) (nth ys)) k ++ [(bz 10000 (nth xs) (nth ys) k+(nth xs k+nth ys k)) % 10000] from Mj _ _)
  obtain ⟨Z,hZ⟩:∃Z,pre (cI 10000 (nth xs) (nth ys)) k=Z:=⟨_,rfl⟩
  have zl:Z.length=k:=by rw [<- hZ,cO]
  rw [hZ] at HD ho ⊢
  rw [zl] at ho ⊢
  have HZ:=Lib.hid hZ
  have Ho:=Lib.hid ho
  have Gr:=Lib.hid gr
  have Zl:=Lib.hid zl
  generalize hcr:bz 10000 (nth xs) (nth ys) k=cr at *
  have Hcr:=Lib.hid hcr
  generalize hcs:bz 10000 (nth xs) (nth ys) (k+1)=cs at *
  have Hcs:=Lib.hid hcs
  have b1:nth xs k<10000:=KV (by omega) ax.out k
  have b2:nth ys k<10000:=KV (by omega) ay.out k
  clear hZ ho gr hcr hcs zl
  by_cases hx:k<n
  ·rcases H3.out with h3 | ⟨b,off,rfl,hbl,hyx⟩
   ·have:=Hn.out;rw [h3] at this;simp at this;omega
   have c1:wr.cell? ⟨b,off+k,none⟩=some (.int .i64 (nth xs k)):=by
    rw [World.cell?_of_block (w:=w) (Gr.out.block b hbl (by simp)),hyx k (by rw [Hn.out];omega)]
   clear hyx
   by_cases hy:k<m
   ·rcases H3'.out with h3' | ⟨b',off',rfl,gX,hyy⟩
    ·have:=Hm.out;rw [h3'] at this;simp at this;omega
    have c2:wr.cell? ⟨b',off'+k,none⟩=some (.int .i64 (nth ys k)):=by
     rw [World.cell?_of_block (w:=w) (Gr.out.block b' gX (by simp)),hyy k (by rw [Hm.out];omega)]
    clear hyy
    go_wp2_with (at_builtin;refine eY rfl _ _ 59 rfl 3 i0 (.int .i64 0) .i64 Try.underlying59 hi hz0 hz1 (by omega) rfl w.heap.size (.slice op k cK) Z ((cr+(nth xs k+nth ys k)) % 10000) rfl (Ho.out.grown (KQ _ _ none) (.inl rfl)) wr.heap.size rfl ?c1 (by rw [Zl.out];omega) (by have:=Gr.out.size;simp;omega) ?_;(case c1=>exact (World.cell?_alloc_at _ _ _ _ rfl).trans (by simp;try omega));intro v' w3 ho3 g3;have ch:=Lib.hid ho3;have G3:=Lib.hid (fg (v:=.slice op k cK) g3 (Ho.out.grown (KQ _ _ none) (.inl rfl)) (be Gr.out (KQ _ _ _)));clear ho3 g3)
    go_roundw
    case rel=>
     refine ⟨k+1,by go_num,int_eq (by have:=HC.out;have:=Hcs.out;omega),by rw [Hcs.out];have:=HC.out;omega,.inr (.inl (by omega)),?_,G3.out⟩
     rw [HD.out]
     exact ch.out
    case measure=>simp [intOf];omega
   ·have y1:nth ys k=0:=dR ys (by rw [Hm.out];omega)
    rw [y1] at HC HD
    go_wp2_with (at_builtin;refine eY rfl _ _ 59 rfl 3 i0 (.int .i64 0) .i64 Try.underlying59 hi hz0 hz1 (by omega) rfl w.heap.size (.slice op k cK) Z ((cr+(nth xs k+0)) % 10000) rfl (Ho.out.grown (KQ _ _ none) (.inl rfl)) wr.heap.size rfl ?c1 (by rw [Zl.out];omega) (by have:=Gr.out.size;simp;omega) ?_;(case c1=>exact (World.cell?_alloc_at _ _ _ _ rfl).trans (by simp;try omega));intro v' w3 ho3 g3;have ch:=Lib.hid ho3;have G3:=Lib.hid (fg (v:=.slice op k cK) g3 (Ho.out.grown (KQ _ _ none) (.inl rfl)) (be Gr.out (KQ _ _ _)));clear ho3 g3)
    go_roundw
    case rel=>
     refine ⟨k+1,by go_num,int_eq (by have:=HC.out;have:=Hcs.out;omega),by rw [Hcs.out];have:=HC.out;omega,.inr (.inl (by omega)),?_,G3.out⟩
     rw [HD.out]
     exact ch.out
    case measure=>simp [intOf];omega
  ·have y0:nth xs k=0:=dR xs (by rw [Hn.out];omega)
   rw [y0] at HC HD
   by_cases hy:k<m
   ·rcases H3'.out with h3' | ⟨b',off',rfl,gX,hyy⟩
    ·have:=Hm.out;rw [h3'] at this;simp at this;omega
    have c2:wr.cell? ⟨b',off'+k,none⟩=some (.int .i64 (nth ys k)):=by
     rw [World.cell?_of_block (w:=w) (Gr.out.block b' gX (by simp)),hyy k (by rw [Hm.out];omega)]
    clear hyy
    go_wp2_with (at_builtin;refine eY rfl _ _ 59 rfl 3 i0 (.int .i64 0) .i64 Try.underlying59 hi hz0 hz1 (by omega) rfl w.heap.size (.slice op k cK) Z ((cr+(0+nth ys k)) % 10000) rfl (Ho.out.grown (KQ _ _ none) (.inl rfl)) wr.heap.size rfl ?c1 (by rw [Zl.out];omega) (by have:=Gr.out.size;simp;omega) ?_;(case c1=>exact (World.cell?_alloc_at _ _ _ _ rfl).trans (by simp;try omega));intro v' w3 ho3 g3;have ch:=Lib.hid ho3;have G3:=Lib.hid (fg (v:=.slice op k cK) g3 (Ho.out.grown (KQ _ _ none) (.inl rfl)) (be Gr.out (KQ _ _ _)));clear ho3 g3)
    go_roundw
    case rel=>
     refine ⟨k+1,by go_num,int_eq (by have:=HC.out;have:=Hcs.out;omega),by rw [Hcs.out];have:=HC.out;omega,.inr (.inr (.inl (by omega))),?_,G3.out⟩
     rw [HD.out]
     exact ch.out
    case measure=>simp [intOf];omega
   ·have y1:nth ys k=0:=dR ys (by rw [Hm.out];omega)
    rw [y1] at HC HD
    by_cases hcr:cr=0
    ·have hl:Hid (pre (cI 10000 (nth xs) (nth ys)) k=ak 10000 (X+Y)):=tp.out k (by rw [Hn.out];omega) (by rw [Hm.out];omega) (by rw [Hcr.out];exact hcr) (by rw [Hn.out,Hm.out];exact hco.out)
     subst hcr
     go_wp2_with fail
     go_ret
     exact ⟨_,rfl,by rw [<- hl.out,HZ.out];exact Ho.out,Gr.out⟩
    ·obtain rfl:cr=1:=by omega
     clear hcr
     go_wp2_with (at_builtin;refine eY rfl _ _ 59 rfl 3 i0 (.int .i64 0) .i64 Try.underlying59 hi hz0 hz1 (by omega) rfl w.heap.size (.slice op k cK) Z ((1+(0+0)) % 10000) rfl (Ho.out.grown (KQ _ _ none) (.inl rfl)) wr.heap.size rfl ?c1 (by rw [Zl.out];omega) (by have:=Gr.out.size;simp;omega) ?_;(case c1=>exact (World.cell?_alloc_at _ _ _ _ rfl).trans (by simp;try omega));intro v' w3 ho3 g3;have ch:=Lib.hid ho3;have G3:=Lib.hid (fg (v:=.slice op k cK) g3 (Ho.out.grown (KQ _ _ none) (.inl rfl)) (be Gr.out (KQ _ _ _)));clear ho3 g3)
     go_roundw
     case rel=>
      refine ⟨k+1,by go_num,int_eq (by have:=HC.out;have:=Hcs.out;omega),by rw [Hcs.out];have:=HC.out;omega,.inr (.inr (.inr (by show 0<bz _ _ _ k;rw [Hcr.out];omega))),?_,G3.out⟩
      rw [HD.out]
      exact ch.out
     case measure=>simp [intOf];omega
set_option maxHeartbeats 2000000 in
theorem ve {v u:Value}{X Y:Nat}{w:World} (hx:Sl w .i64 v (ak 10000 X)) (hy:Sl w .i64 u (ak 10000 Y)) (lx:(ak 10000 X).length<=4000000) (hle:Y<=X) :
  Calls Try.prog 97 #[v,u] w (gk w (X-Y)):=by
 have ax:=Lib.hid (Lg (b:=10000) (by omega) X)
 have ay:=Lib.hid (Lg (b:=10000) (by omega) Y)
 have hml:=ko (b:=10000) (by omega) hle
 have Fin:=Lib.hid (show val 10000 (pre (dC 10000 (nth (ak 10000 X)) (nth (ak 10000 Y))) (ak 10000 X).length)=X-Y by
  have:=MH ax.out ay.out (by omega) hml (by rw [cT (by omega),cT (by omega)];exact hle)
  rwa [cT (by omega),cT (by omega)] at this)
 obtain ⟨p,cap,rfl,h1,h2,h3⟩:=id hx
 obtain ⟨q,dh,rfl,h1',h2',h3'⟩:=id hy
 obtain ⟨i0,hi,hz0,hz1,hz2⟩:=info_parts Try.infoI
 generalize hdx:ak 10000 X=xs at *
 generalize hdy:ak 10000 Y=ys at *
 obtain ⟨n,hn⟩:∃n,xs.length=n:=⟨_,rfl⟩
 obtain ⟨m,hm⟩:∃m,ys.length=m:=⟨_,rfl⟩
 rw [hn] at lx h1 Fin hml ⊢
 rw [hm] at hml h1' ⊢
 obtain ⟨Z,hZ⟩:∃Z,pre (dC 10000 (nth xs) (nth ys)) n=Z:=⟨_,rfl⟩
 have zl:Z.length=n:=by rw [<- hZ,cO]
 have hZn:∀j,j<n->nth Z j=dC 10000 (nth xs) (nth ys) j:=fun j hj=>by rw [<- hZ];exact eD _ hj
 have za:All 10000 Z:=by rw [<- hZ];exact ga (fun j _=>Mf (KV (by omega) ax.out) j)
 rw [hZ] at Fin
 have H3:=Lib.hid h3
 have H3':=Lib.hid h3'
 have Hn:=Lib.hid hn
 have Hm:=Lib.hid hm
 have Zl:=Lib.hid zl
 have HZn:=Lib.hid hZn
 have Za:=Lib.hid za
 clear h3 h3' hn hm hx hy hdx hdy h2 h2' hZ zl hZn za hle
 go_enter Try.func97,Try.ntmps97
 go_wp2_with (at_make;refine fQ rfl _ _ 59 rfl 3 i0 (.int .i64 0) Try.underlying59 hi hz0 hz1 (by omega) rfl _ _ _ _ n n rfl rfl (by omega) (by omega) (Nat.le_refl _) (by omega) ?_;intro w1 r1 g1 s1;have R1:=Lib.hid r1;have G1:=Lib.hid g1;clear r1 g1)
 go_loopw [6,14] (fun cv i wr=>∃k:Nat,k<=n∧i = .int .i64 k∧cv = .int .i64 (aU (nth xs) (nth ys) k:Nat)∧aO wr 3 w.heap.size n (lay (fun _=>.int .i64 0) 0 k .i64 Z)∧w.grownBy wr none∧w.heap.size<wr.heap.size) (fun _ i _=>(n-(intOf i).toNat))
 case atStart=>exact ⟨0,by omega,rfl,rfl,by rw [kU];exact R1.out,G1.out,by omega⟩
 case round=>
  obtain ⟨k,hk,rfl,rfl,rr,gr,sr⟩:=hrel
  have Gr:=Lib.hid gr
  by_cases hx:k<n
  ·rcases H3.out with h3 | ⟨b,off,rfl,hbl,hyx⟩
   ·have:=Hn.out;rw [h3] at this;simp at this;omega
   have c1:wr.cell? ⟨b,off+k,none⟩=some (.int .i64 (nth xs k)):=by
    rw [World.cell?_of_block (w:=w) (gr.block b hbl (by simp)),hyx k (by rw [Hn.out];omega)]
   clear hyx
   have f1:wr.frozen? ⟨w.heap.size,k,none⟩=false:=rr.frozen _
   have c3:wr.cell? ⟨w.heap.size,k,none⟩=some (.int .i64 0):=by rw [rr.cell (by omega),dl _ _ _ (by omega)]
   have b1:nth xs k<10000:=KV (by omega) ax.out k
   have b2:nth ys k<10000:=KV (by omega) ay.out k
   have i1:(k:Int)<(n:Int):=by omega
   have HS:=Lib.hid (show nth Z k+(nth ys k+aU (nth xs) (nth ys) k)=nth xs k+10000*aU (nth xs) (nth ys) (k+1) by
    rw [HZn.out k hx];exact lN (KV (by omega) ay.out) k)
   have HC:=Lib.hid (show aU (nth xs) (nth ys) (k+1)=if nth xs k<nth ys k+aU (nth xs) (nth ys) k then 1 else 0 from rfl)
   have hcr:=jZ (nth xs) (nth ys) k
   generalize aU (nth xs) (nth ys) k=cr at *
   have RR:=Lib.hid rr
   clear rr gr
   by_cases hy:k<m
   ·rcases H3'.out with h3' | ⟨b',off',rfl,gX,hyy⟩
    ·have:=Hm.out;rw [h3'] at this;simp at this;omega
    have c2:wr.cell? ⟨b',off'+k,none⟩=some (.int .i64 (nth ys k)):=by
     rw [World.cell?_of_block (w:=w) (Gr.out.block b' gX (by simp)),hyy k (by rw [Hm.out];omega)]
    clear hyy
    by_cases hs:nth xs k<nth ys k+cr
    ·have hs2:((nth xs k:Nat):Int)-(cr:Int)-((nth ys k:Nat):Int)<0:=by omega
     have HC1:Hid (aU (nth xs) (nth ys) (k+1)=1):=by show _=_;rw [HC.out];exact if_pos hs
     have HE:Hid (nth Z k+(nth ys k+cr)=nth xs k+10000*1):=by show _=_;rw [HS.out,HC1.out]
     go_wp2
     go_roundw
     case rel=>
      refine ⟨k+1,by omega,by go_num,by rw [HC1.out];try rfl,?_,cW Gr.out (cF _ _ _ _) (Nat.le_refl _),by simpa using sr⟩
      rw [<- eX _ k .i64 Z rfl]
      refine (RR.out.set k _).congr fun j _=>?_
      congr 1
      exact int_eq (by have:=HE.out;omega)
     case measure=>simp [intOf];omega
    ·have hs2:¬((nth xs k:Nat):Int)-(cr:Int)-((nth ys k:Nat):Int)<0:=by omega
     have HC1:Hid (aU (nth xs) (nth ys) (k+1)=0):=by show _=_;rw [HC.out];exact if_neg hs
     have HE:Hid (nth Z k+(nth ys k+cr)=nth xs k+10000*0):=by show _=_;rw [HS.out,HC1.out]
     go_wp2
     go_roundw
     case rel=>
      refine ⟨k+1,by omega,by go_num,by rw [HC1.out];try rfl,?_,cW Gr.out (cF _ _ _ _) (Nat.le_refl _),by simpa using sr⟩
      rw [<- eX _ k .i64 Z rfl]
      refine (RR.out.set k _).congr fun j _=>?_
      congr 1
      exact int_eq (by have:=HE.out;omega)
     case measure=>simp [intOf];omega
   ·have y1:nth ys k=0:=dR ys (by rw [Hm.out];omega)
    by_cases hs:nth xs k<nth ys k+cr
    ·have hs2:((nth xs k:Nat):Int)-(cr:Int)<0:=by omega
     have HC1:Hid (aU (nth xs) (nth ys) (k+1)=1):=by show _=_;rw [HC.out];exact if_pos hs
     have HE:Hid (nth Z k+(nth ys k+cr)=nth xs k+10000*1):=by show _=_;rw [HS.out,HC1.out]
     go_wp2
     go_roundw
     case rel=>
      refine ⟨k+1,by omega,by go_num,by rw [HC1.out];try rfl,?_,cW Gr.out (cF _ _ _ _) (Nat.le_refl _),by simpa using sr⟩
      rw [<- eX _ k .i64 Z rfl]
      refine (RR.out.set k _).congr fun j _=>?_
      congr 1
      exact int_eq (by have:=HE.out;omega)
     case measure=>simp [intOf];omega
    ·have hs2:¬((nth xs k:Nat):Int)-(cr:Int)<0:=by omega
     have HC1:Hid (aU (nth xs) (nth ys) (k+1)=0):=by show _=_;rw [HC.out];exact if_neg hs
     have HE:Hid (nth Z k+(nth ys k+cr)=nth xs k+10000*0):=by show _=_;rw [HS.out,HC1.out]
     go_wp2
     go_roundw
     case rel=>
      refine ⟨k+1,by omega,by go_num,by rw [HC1.out];try rfl,?_,cW Gr.out (cF _ _ _ _) (Nat.le_refl _),by simpa using sr⟩
      rw [<- eX _ k .i64 Z rfl]
      refine (RR.out.set k _).congr fun j _=>?_
      congr 1
      exact int_eq (by have:=HE.out;omega)
     case measure=>simp [intOf];omega
  ·obtain rfl:k=n:=by omega
   have ho:Own wr 3 .i64 w.heap.size (.slice (some ⟨w.heap.size,0,none⟩) k k) Z:=
    .inr ⟨w.heap.size,_,_,by rw [Zl.out],Nat.le_refl _,rr,by rw [Zl.out];omega,by omega,fun j hj=>jn _ _ _ (by rw [Zl.out] at hj;exact hj)⟩
   have Ho:=Lib.hid ho
   clear ho rr gr
   go_wp2_with fail
   refine (iW _ _ _ Z _ Ho.out.sl).mono ?_
   rintro e w'' ⟨rfl,rfl⟩
   go_wp2_with fail
   go_ret
   refine ⟨_,rfl,?_,Gr.out⟩
   rw [<- Fin.out,<- dQ (by omega) Za.out]
   exact Ho.out.trim
theorem pa {w:World}{e:TypeId}{g N:Nat}{k:IntKind}{R:List Nat}{j t:Nat}{v:Value} (hl:R.length=N) (h:aO w e g N (fun j=>.int k (nth R j))) (hj:j<N) (hv:v = .int k (t:Int)) :
  aO (w.setCell ⟨g,j,none⟩ v) e g N (fun i=>.int k (nth (R.set j t) i)):=by
 refine (h.set j v).congr fun i hi=>?_
 by_cases hij:i=j
 ·subst hij
  rw [iq,lP _ (by omega),hv]
 ·rw [upd_ne _ _ hij,oc _ _ hij]
def HA (w:World) (Q R:Nat) (e:Ending) (w':World):Prop:=
 ∃v u,e = .returned (.tuple #[v,u])∧Own w' 3 .i64 w.heap.size v (ak 10000 Q)∧Own w' 3 .i64 w.heap.size u (ak 10000 R)∧w.grownBy w' none
theorem vg (w:World) (e:TypeId) (k:IntKind) (x:Nat) (B:Nat) (hB:B<=w.heap.size):Own (w.alloc (.cells #[.int k x] e)) e k B (.slice (some ⟨w.heap.size,0,none⟩) 1 1) [x]:=by
 refine .inr ⟨w.heap.size,1,fun _=>.int k x,rfl,hB,?_,Nat.le_refl _,by omega,fun j hj=>?_⟩
 ·exact aO.made w #[.int k x] e _ (fun j hj=>by
   have:j=0:=by simpa using hj
   subst this;rfl)
 ·have:j=0:=by simpa using hj
  subst this;rfl
theorem HB {a r:Nat} (ha:a<10000):trim ([a] ++ ak 10000 r)=ak 10000 (a+10000*r):=by
 have h:All 10000 ([a] ++ ak 10000 r):=All.cons ha (Lg (by omega) _)
 rw [dQ (by omega) h]
 simp [val,cT]
theorem HF {lo hi m:Nat} (hm:(lo+hi+1) / 2=m) (hl:lo<hi):lo<m∧m<=hi:=by omega
theorem HH (p:Option Addr) (a b c d:Nat):(Value.slice p a b).ownBlock=(Value.slice p c d).ownBlock:=by
 cases p <;> simp [Value.ownBlock]
theorem HI (Y:Nat):(ak 10000 (10000*Y)).length<=(ak 10000 Y).length+1:=by
 refine eR (by omega) _ _ ?_
 have:=gh (b:=10000) (by omega) Y
 rw [Nat.pow_succ]
 omega
theorem HJ {V A Z r a T Y l:Nat} (h:A=Z*Y+r) (hT:a+10000*r=T) (hl:Y*l<=T) (hV:V=a+10000*A):V=(l+10000*Z)*Y+(T-Y*l):=by
 obtain ⟨d,rfl⟩:∃d,T=Y*l+d:=⟨T-Y*l,by omega⟩
 rw [Nat.add_sub_cancel_left,hV,h,Nat.add_mul,Nat.mul_add,Nat.mul_comm l Y,Nat.mul_assoc]
 omega
set_option maxHeartbeats 2000000 in
theorem HK {v u:Value}{X Y:Nat}{w:World} (hx:Sl w .i64 v (ak 10000 X)) (hy:Sl w .i64 u (ak 10000 Y)) (lx:(ak 10000 X).length<=3000000) (ly:(ak 10000 Y).length<=3000000) (hY:0<Y) :
  Calls Try.prog 93 #[v,u] w (HA w (X / Y) (X % Y)):=by
 have ax:=Lib.hid (Lg (b:=10000) (by omega) X)
 have vx:=Lib.hid (cT (b:=10000) (by omega) X)
 obtain ⟨p,cap,rfl,h1,h2,h3⟩:=id hx
 obtain ⟨q,dh,rfl,-⟩:=id hy
 obtain ⟨i0,hi,hz0,hz1,hz2⟩:=info_parts Try.infoI
 generalize hdx:ak 10000 X=xs at *
 obtain ⟨n,hn⟩:∃n,xs.length=n:=⟨_,rfl⟩
 rw [hn] at lx h1 ⊢
 have H3:=Lib.hid h3
 have Hn:=Lib.hid hn
 have Hy:=Lib.hid hy
 clear h3 hn hx hy hdx h2
 go_enter Try.func93,Try.ntmps93
 go_wp2_with (at_make;refine fQ rfl _ _ 59 rfl 3 i0 (.int .i64 0) Try.underlying59 hi hz0 hz1 (by omega) rfl _ _ _ _ n n rfl rfl (by omega) (by omega) (Nat.le_refl _) (by omega) ?_;intro w1 r1 g1 s1;have R1:=Lib.hid r1;have G1:=Lib.hid g1;clear r1 g1)
 go_loopw [7,8] (fun rv iv wr=>∃(k r:Nat) (q:Int) (Z:List Nat),k<=n∧iv = .int .i64 q∧q=(k:Int)-1∧Hid (r<Y)∧Hid (Z.length=n)∧Hid (All 10000 Z) ∧
   Hid (val 10000 (xs.drop k)=val 10000 (Z.drop k)*Y+r)∧Hid (Own wr 3 .i64 w.heap.size rv (ak 10000 r))∧Hid (aO wr 3 w.heap.size n (fun j=>.int .i64 (nth Z j)))∧Hid (w.grownBy wr none)∧w.heap.size<wr.heap.size) (fun _ i _=>(intOf i+1).toNat)
 case atStart=>
  refine ⟨n,0,_,List.replicate n 0,by omega,rfl,rfl,hY,?_,All.iL (by omega) _,?_,Own.nil _ _ _ _,R1.out.congr fun j hj=>by simp [nth,hj],G1.out,by omega⟩
  ·show _=_
   simp
  ·show _=_
   rw [List.drop_of_length_le (by rw [Hn.out];omega),List.drop_replicate,gO]
   simp [val]
 case round=>
  obtain ⟨k,r,q,Z,hk,rfl,hq,Hr,Zl,Za,Hv,Ro,Rr,Gr,sr⟩:=hrel
  have Rs:=Lib.hid Ro.out.sl
  obtain ⟨rp,HN,rfl,-⟩:=id Rs.out
  cases k with
  | zero=>
   obtain rfl:q = -1:=by omega
   have ho:Own wr 3 .i64 w.heap.size (.slice (some ⟨w.heap.size,0,none⟩) n n) Z:=
    .inr ⟨w.heap.size,_,_,by rw [Zl.out],Nat.le_refl _,Rr.out,by rw [Zl.out];omega,by omega,fun j _=>rfl⟩
   have Ho:=Lib.hid ho
   clear ho hq
   go_wp2_with fail
   refine (iW _ _ _ Z _ Ho.out.sl).mono ?_
   rintro e w'' ⟨rfl,rfl⟩
   go_wp2_with fail
   go_ret2
   have hv:=Hv.out
   simp only [List.drop_zero] at hv
   rw [vx.out] at hv
   have e1:X / Y=val 10000 Z:=by
    rw [hv,Nat.mul_comm,Nat.mul_add_div hY,Nat.div_eq_of_lt Hr.out];omega
   have e2:X % Y=r:=by
    rw [hv,Nat.mul_comm,Nat.mul_add_mod,Nat.mod_eq_of_lt Hr.out]
   refine ⟨_,_,rfl,?_,by rw [e2];exact Ro.out,Gr.out⟩
   rw [e1,<- dQ (by omega) Za.out]
   exact Ho.out.trim
  | succ k=>
   obtain rfl:q=(k:Int):=by omega
   rcases H3.out with h3 | ⟨b,off,rfl,hbl,hyx⟩
   ·have:=Hn.out;rw [h3] at this;simp at this;omega
   have c1:wr.cell? ⟨b,off+k,none⟩=some (.int .i64 (nth xs k)):=by
    rw [World.cell?_of_block (w:=w) (Gr.out.block b hbl (by simp)),hyx k (by rw [Hn.out];omega)]
   have b1:nth xs k<10000:=ax.out.nth (by rw [Hn.out];omega)
   have i1:(k:Int)<(n:Int):=by omega
   have OO:=Lib.hid (vg wr 3 .i64 (nth xs k) wr.heap.size (Nat.le_refl _))
   have lr:=Lib.hid (Nat.le_trans (ko (b:=10000) (by omega) (Nat.le_of_lt Hr.out)) ly)
   have vh:=Lib.hid (Rs.out.grown (KQ wr (.cells #[.int .i64 (nth xs k:Nat)] 3) none) (.inl rfl))
   have Tr:=Lib.hid (HB (r:=r) b1)
   clear hyx hq
   go_wp2_with (at_builtin;refine wU rfl _ _ 59 rfl 3 i0 (.int .i64 0) .i64 Try.underlying59 hi hz0 hz1 (by omega) rfl wr.heap.size (.slice (some ⟨wr.heap.size,0,none⟩) 1 1) [nth xs k] rfl OO.out rp (ak 10000 r).length HN (ak 10000 r) rfl vh.out (by have:=lr.out;simp;omega) (by simp) ?_;intro v' w3 ho3 g3;have ch:=Lib.hid ho3;have G3:=Lib.hid g3;clear ho3 g3)
   have GW3:=Lib.hid (fg (v:=.slice (some ⟨wr.heap.size,0,none⟩) 1 1) G3.out (OO.out.mono (show w.heap.size<=_ by omega)) (be Gr.out (KQ _ _ _)))
   have Rr3:=Lib.hid ((Rr.out.grown (KQ wr (.cells #[.int .i64 (nth xs k:Nat)] 3) none) (by simp)).grown G3.out (by simp [Value.ownBlock];omega))
   have s3:w.heap.size<w3.heap.size:=by have:=G3.out.size;simp at this;omega
   obtain ⟨vp,vc,rfl⟩:=ch.out.slice
   refine (iW _ _ _ _ _ ch.out.sl).mono ?_
   rintro e w'' ⟨rfl,rfl⟩
   obtain ⟨T,hT⟩:∃T,nth xs k+10000*r=T:=⟨_,rfl⟩
   have hTl:T<10000*Y:=by have:=Hr.out;omega
   rw [hT] at Tr
   have HT:=Lib.hid hT
   have Va:=Lib.hid (fun g (hg:(Value.slice vp (ak 10000 T).length vc).ownBlock=some g)=>(ch.out.lt g ((HH vp _ _ _ _).trans hg)).1)
   have St:=Lib.hid (show Sl w3 .i64 (.slice vp (ak 10000 T).length vc) (ak 10000 T) by rw [<- Tr.out];exact ch.out.sl.trim)
   rw [Tr.out]
   clear hT OO vh Rs Rr G3 ch Tr c1
   go_wp2_with fail
   go_loopw [9,10] (fun lo hi wr=>∃l h:Nat,lo = .int .i64 l∧hi = .int .i64 h∧l<=h∧h<=9999∧Hid (Y*l<=T)∧Hid (T<Y*(h+1))∧Hid (w3.grownBy wr none)) (fun lo hi _=>(intOf hi-intOf lo).toNat)
   case atStart=>exact ⟨0,9999,rfl,rfl,by omega,by omega,by show _<=_;omega,by show _<_;omega,ba _ _⟩
   case round=>
    have KN:=sr
    obtain ⟨l,h,rfl,rfl,hlh,h99,Hl,Hh,G4⟩:=hrel
    have G5:=Lib.hid (be GW3.out G4.out)
    have Hy5:=Lib.hid (Hy.out.grown G5.out (.inl rfl))
    have St5:=Lib.hid (St.out.grown G4.out (.inl rfl))
    have LR:=Lib.hid (Rr3.out.grown G4.out (by simp))
    have s5:w.heap.size<wr.heap.size:=Nat.lt_of_lt_of_le s3 G4.out.size
    by_cases hlt:l<h
    ·obtain ⟨m,hm⟩:∃m,(l+h+1) / 2=m:=⟨_,rfl⟩
     obtain ⟨hm1,hm2⟩:=HF hm hlt
     have hm':((l:Int)+(h:Int)+1) / 2=(m:Int):=by omega
     have Ha:=Lib.hid hm
     clear hm
     go_wp2_with fail
     refine (km m 0 Hy5.out (by omega) (by omega) (by omega)).mono ?_
     rintro e w4 ⟨v4,rfl,ho4,g4⟩
     rw [Nat.add_zero] at ho4
     have Ho4:=Lib.hid ho4
     have G6:=Lib.hid (be G4.out g4)
     have pc:=Lib.hid (St5.out.grown g4 (.inl rfl))
     have sg:=g4.size
     clear ho4 g4
     go_wp2_with fail
     refine (vd Ho4.out.sl pc.out).mono ?_
     rintro e w5 ⟨rfl,dn,rfl⟩
     have G7:=Lib.hid (be G6.out (gP w4 dn none))
     by_cases hle:Y*m<=T
     ·have hc:bZ (Y*m) T<=0:=uJ.2 hle
      have Hle:=Lib.hid hle
      clear hle
      generalize bZ (Y*m) T=cv at *
      go_wp2_with fail
      go_roundw
      case rel=>exact ⟨m,h,rfl,rfl,hm2,h99,Hle.out,Hh.out,G7.out⟩
      case measure=>simp only [intOf];omega
     ·have hc:¬bZ (Y*m) T<=0:=fun h=>hle (uJ.1 h)
      have Hle:=Lib.hid hle
      clear hle
      generalize bZ (Y*m) T=cv at *
      go_wp2_with fail
      go_roundw
      case rel=>exact ⟨l,m-1,rfl,int_eq (by omega),by omega,by omega,Hl.out,by show _<_;rw [show m-1+1=m by omega];have:=Hle.out;omega,G7.out⟩
      case measure=>simp only [intOf];omega
    ·obtain rfl:l=h:=by omega
     have f1:wr.frozen? ⟨w.heap.size,k,none⟩=false:=LR.out.frozen _
     have c1:wr.cell? ⟨w.heap.size,k,none⟩=some (.int .i64 (nth Z k)):=LR.out.cell (by omega)
     have HO:=Lib.hid (pa (t:=l) (v:=.int .i64 l) Zl.out LR.out (show k<n by omega) rfl)
     have G6:=Lib.hid (cW G5.out (cF wr w.heap.size k (.int .i64 l)) (Nat.le_refl _))
     have Hy6:=Lib.hid (Hy.out.grown G6.out (.inl rfl))
     have pc:=Lib.hid (St5.out.grown (cF wr w.heap.size k (.int .i64 l)) (.inr (fun e=>by have:=Va.out _ e;omega)))
     clear St5 Hy5 LR St
     go_wp2_with fail
     have sw:w.heap.size<(wr.setCell { block:=w.heap.size,off:=k } (Value.int IntKind.i64 l)).heap.size:=by simpa using s5
     generalize wr.setCell { block:=w.heap.size,off:=k } (Value.int IntKind.i64 l)=w6 at *
     refine (km l 0 Hy6.out (by omega) (by omega) (by omega)).mono ?_
     rintro e w7 ⟨v7,rfl,ho7,g7⟩
     rw [Nat.add_zero] at ho7
     have Ho7:=Lib.hid ho7
     have G7:=Lib.hid (be G6.out g7)
     have St7:=Lib.hid (pc.out.grown g7 (.inl rfl))
     have HP:=Lib.hid (HO.out.grown g7 (by simp))
     have s7:=g7.size
     have lT:=Lib.hid (show (ak 10000 T).length<=4000000 from by
      have e1:=ko (b:=10000) (by omega) (Nat.le_of_lt hTl)
      have e2:=HI Y
      omega)
     clear ho7 g7
     go_wp2_with fail
     refine (ve St7.out Ho7.out.sl lT.out Hl.out).mono ?_
     rintro e w8 ⟨v8,rfl,ho8,g8⟩
     have Ho8:=Lib.hid ho8
     have s8:=g8.size
     have G8:=Lib.hid (be G7.out g8)
     have HQ:=Lib.hid (HP.out.grown g8 (by simp))
     clear ho8 g8
     go_wp2_with fail
     go_roundw
     case rel=>
      refine ⟨k,T-Y*l,_,Z.set k l,by omega,rfl,rfl,?_,?_,Za.out.set (by omega) k,?_,Ho8.out.mono (by omega),HQ.out,G8.out,by omega⟩
      ·show _<_
       have h1:=Hh.out
       have h2:=Hl.out
       rw [Nat.mul_add] at h1
       omega
      ·show _=_
       rw [List.length_set,Zl.out]
      ·show _=_
       rw [lQ _ (by rw [Zl.out];omega)]
       exact HJ Hv.out HT.out Hl.out (fG _ _ (by rw [Hn.out];omega))
     case measure=>simp [intOf]
theorem HR (i:Nat):(ak 10000 (2 ^ i)).length<=i+1:=by
 refine eR (by omega) _ _ ?_
 exact Nat.lt_of_lt_of_le (Nat.pow_lt_pow_right (a:=2) (by omega) (Nat.lt_succ_self i)) (Nat.pow_le_pow_left (by omega) _)
set_option maxHeartbeats 1000000 in
theorem HW (n:Nat) (w:World) (hn:n<=1000000):Calls Try.prog 57 #[.int .i64 n] w (gk w (2 ^ n)):=by
 have OO:=Lib.hid (vg w 3 .i64 1 w.heap.size (Nat.le_refl _))
 have G0:=Lib.hid (KQ w (.cells #[.int .i64 1] 3) none)
 go_enter Try.func57,Try.ntmps57
 go_wp2_with fail
 go_loopw [3,4] (fun o i wr=>∃k:Nat,k<=n∧i = .int .i64 k∧Own wr 3 .i64 w.heap.size o (ak 10000 (2 ^ k))∧w.grownBy wr none) (fun _ i _=>(n-(intOf i).toNat))
 case atStart=>exact ⟨0,by omega,rfl,by rw [Nat.pow_zero,Mi (by omega) (by omega) (by omega)];exact OO.out,G0.out⟩
 case round=>
  obtain ⟨k,hk,rfl,ho,gr⟩:=hrel
  have Ho:=Lib.hid ho
  have Gr:=Lib.hid gr
  clear ho gr
  by_cases hlt:k<n
  ·have hl:=Lib.hid (HR k)
   go_wp2_with fail
   refine (km 2 0 Ho.out.sl (by omega) (by omega) (by have:=hl.out;omega)).mono ?_
   rintro e w4 ⟨v4,rfl,ho4,g4⟩
   have Ho4:=Lib.hid (ho4.mono Gr.out.size)
   have G4:=Lib.hid (be Gr.out g4)
   clear ho4 g4
   go_wp2_with fail
   go_roundw
   case rel=>exact ⟨k+1,by omega,by go_num,by rw [Nat.pow_succ];exact Ho4.out,G4.out⟩
   case measure=>simp [intOf];omega
  ·obtain rfl:k=n:=by omega
   go_wp2_with fail
   go_ret
   exact ⟨_,rfl,Ho.out,Gr.out⟩
end Go.Proofs.Ytomamliepbhegaa
