/- Package orreryref01: cut, mulAdd, small. Package orreryref01: small, FromN, ToN. Package orreryref01: ToN. Package orreryref01: CmpN. Package orreryref01: AddN. Package orreryref01: SubN. Package orreryref01: MulN. Package orreryref01: DivN. Package orreryref01: PowN, BitsN. -/
import Derived.Test.YthmcngjhkmpneaaGreatLimbL
set_option maxRecDepth 100000
namespace Go.Proofs.YthmcngjhkmpneaaGreat
open Go.RowKit
theorem K4 (b off n cap:Nat) (xs:List Nat) (w:World) (hn:n<=xs.length) (hcap:n<=cap) (hm:cap<=9223372036854775807)
  (hc:∀j,j<xs.length->w.cell? ⟨b,off+j,none⟩=some (.int .i64 (nth xs j))) :
  Calls Tryz.prog 158 #[.slice (some ⟨b,off,none⟩) n cap] w fun e w'=>e = .returned (.slice (some ⟨b,off,none⟩) (cQ xs n) cap)∧w=w':=by
 go_enter Tryz.func158,Tryz.ntmps158
 go_wp2
 go_loop [3] (fun v=>∃k:Nat,k<=n∧v = .int .i64 k∧cQ xs k=cQ xs n) (fun v=>(intOf v).toNat)
 case atStart=>exact ⟨n,by omega,rfl,rfl⟩
 case round=>
  obtain ⟨k,hk,rfl,ht⟩:=hrel
  have HT:=Lib.hid ht
  clear ht
  cases k with
  | zero=>
   go_wp2
   go_ret
   exact ⟨by rw [<- HT.out];rfl,rfl⟩
  | succ k=>
   have hcell:=hc k (by omega)
   clear hc
   have hkc:k<=cap:=by omega
   by_cases h0:nth xs k=0
   ·have hb:=vT h0
    have HZ:=Lib.hid h0
    clear h0
    go_wp2
    go_round
    case rel=>exact ⟨k,by omega,by go_num,by rw [<- HT.out];simp [cQ,HZ.out]⟩
    case measure=>simp [intOf];try omega
   ·have hb:=vU h0
    go_wp2
    go_ret
    exact ⟨by rw [<- HT.out];simp [cQ,h0],rfl⟩
set_option maxHeartbeats 400000 in
theorem K5 (p:Option Addr) (cap:Nat) (w:World) :
  Calls Tryz.prog 158 #[.slice p 0 cap] w fun e w'=>e = .returned (.slice p 0 cap)∧w=w':=by
 go_enter Tryz.func158,Tryz.ntmps158
 go_wp2
 refine wp_loop_rounds 1 ?_
 rw [rounds_succ]
 go_wp2
 go_ret
 exact ⟨rfl,rfl⟩
theorem jz (p:Option Addr) (n cap:Nat) (xs:List Nat) (w:World) (h:Sl w .i64 (.slice p n cap) xs) :
  Calls Tryz.prog 158 #[.slice p n cap] w fun e w'=>e = .returned (.slice p (trim xs).length cap)∧w=w':=by
 obtain ⟨p',cap',e,h1,h2,h3⟩:=h
 simp only [Value.slice.injEq] at e
 obtain ⟨rfl,rfl,rfl⟩:=e
 rw [cR]
 rcases h3 with rfl | ⟨b,off,rfl,h4,h5⟩
 ·exact K5 _ _ _
 ·exact K4 b off xs.length cap xs w (Nat.le_refl _) h1 h2 h5
theorem Own.slice {w:World}{e:TypeId}{k:IntKind}{B:Nat}{v:Value}{xs:List Nat} (h:Own w e k B v xs):∃p cap,v = .slice p xs.length cap:=by
 obtain ⟨p,cap,rfl,-⟩:=h.sl
 exact ⟨p,cap,rfl⟩
def gT (w:World) (X:Nat) (e:Ending) (w':World):Prop:=Made 3 .i64 w (af 10000 X) e w'
theorem K6 {xs:List Nat}{m c0 k:Nat} (hk:xs.length<=k) (h0:chC 10000 (fun j=>nth xs j*m) c0 k=0):val 10000 (pre (eG 10000 (fun j=>nth xs j*m) c0) k)=val 10000 xs*m+c0:=by
 have:=qq 10000 (fun j=>nth xs j*m) c0 k
 rw [h0,val_mul,db _ _ hk] at this
 omega
set_option maxHeartbeats 1000000 in
theorem K7 {v:Value}{xs:List Nat}{w:World} (m c0:Nat) (hx:Sl w .i64 v xs) (ax:All 10000 xs) (hm:m<=65536) (hc:c0<=65536) (hlen:xs.length<=8796093022208) :
  Calls Tryz.prog 155 #[v,.int .i64 m,.int .i64 c0] w (gT w (val 10000 xs*m+c0)):=by
 obtain ⟨p,cap,rfl,h1,h2,h3⟩:=id hx
 obtain ⟨i0,hi,hz0,hz1,hz2⟩:=info_parts Tryz.infoI
 obtain ⟨n,hn⟩:∃n,xs.length=n:=⟨_,rfl⟩
 have Cb:=Lib.hid (fun k=>qo (b:=10000) (m:=65537) (s:=fun j=>nth xs j*m) (c0:=c0) (fun j=>by
  have b1:nth xs j<=9999:=by have:=aT (by omega) ax j;omega
  have:=Nat.mul_le_mul b1 hm
  show nth xs j*m+65537<=_
  omega) (by omega) k)
 rw [hn] at hlen h1 ⊢
 have Hx:=Lib.hid hx
 have Ax:=Lib.hid ax
 have H3:=Lib.hid h3
 have Hn:=Lib.hid hn
 clear hx ax h3 hn
 go_enter Tryz.func155,Tryz.ntmps155
 go_wp2_with (at_make;refine eZ rfl _ _ 40 rfl 3 i0 (.int .i64 0) Tryz.underlying40 hi hz0 hz1 (by omega) rfl _ _ _ _ 0 (n+2) rfl rfl (by omega) (by omega) (by omega) (by omega) ?_;intro w1 r1 g1 s1;have R1:=Lib.hid r1;have G1:=Lib.hid g1;clear r1 g1)
 go_loopw [2,7,8] (fun cv o i wr=>∃k:Nat,i = .int .i64 k∧cv = .int .i64 (chC 10000 (fun j=>nth xs j*m) c0 k:Nat)∧k+chC 10000 (fun j=>nth xs j*m) c0 k<=n+65537∧Own wr 3 .i64 w.heap.size o (pre (eG 10000 (fun j=>nth xs j*m) c0) k)∧w.grownBy wr none∧w.heap.size<wr.heap.size) (fun cv _ i _=>(n-(intOf i).toNat)*100000+(intOf cv).toNat)
 case atStart=>
  refine ⟨0,rfl,rfl,by show 0+c0<=_;omega,.inr ⟨w.heap.size,n+2,_,rfl,Nat.le_refl _,R1.out,by simp [pre],by omega,fun j hj=>by simp [pre] at hj⟩,G1.out,by omega⟩
 case round=>
  obtain ⟨k,rfl,rfl,hk,ho,gr,sr⟩:=hrel
  have cb:=Cb.out k
  have cb':=Cb.out (k+1)
  have HC:=Lib.hid (show chC 10000 (fun j=>nth xs j*m) c0 (k+1)=(chC 10000 (fun j=>nth xs j*m) c0 k+nth xs k*m) / 10000 from rfl)
  have HD:=Lib.hid (show pre (eG 10000 (fun j=>nth xs j*m) c0) (k+1)=pre (eG 10000 (fun j=>nth xs j*m) c0) k ++ [(chC 10000 (fun j=>nth xs j*m) c0 k+nth xs k*m) % 10000] from qJ _ _)
  obtain ⟨Z,hZ⟩:∃Z,pre (eG 10000 (fun j=>nth xs j*m) c0) k=Z:=⟨_,rfl⟩
  have zl:Z.length=k:=by rw [<- hZ,ce]
  rw [hZ] at HD ho
  have HZ:=Lib.hid hZ
  have Ho:=Lib.hid ho
  have Gr:=Lib.hid gr
  have Zl:=Lib.hid zl
  obtain ⟨op,cT,rfl⟩:=ho.slice
  rw [zl] at Ho
  generalize hcr:chC 10000 (fun j=>nth xs j*m) c0 k=cr at *
  have Hcr:=Lib.hid hcr
  generalize hcs:chC 10000 (fun j=>nth xs j*m) c0 (k+1)=cs at *
  have Hcs:=Lib.hid hcs
  clear hZ ho gr hcr hcs
  rw [zl]
  clear zl
  by_cases hlt:k<n
  ·rcases H3.out with h3 | ⟨b,off,rfl,hbl,hy⟩
   ·have:=Hn.out;rw [h3] at this;simp at this;omega
   have c1:wr.cell? ⟨b,off+k,none⟩=some (.int .i64 (nth xs k)):=by
    rw [World.cell?_of_block (w:=w) (Gr.out.block b hbl (by simp)),hy k (by rw [Hn.out];omega)]
   clear hy
   have b1:nth xs k<10000:=Ax.out.nth (by rw [Hn.out];omega)
   have b2:nth xs k*m<=655350000:=by have:=Nat.mul_le_mul (show nth xs k<=9999 by omega) hm;omega
   obtain ⟨t,ht⟩:∃t,nth xs k*m=t:=⟨_,rfl⟩
   rw [ht] at HC HD b2
   have ht':((nth xs k:Nat):Int)*(m:Int)=(t:Int):=by rw [<- ht,Int.natCast_mul]
   clear ht
   go_wp2_with (at_builtin;refine fy rfl _ _ 40 rfl 3 i0 (.int .i64 0) .i64 Tryz.underlying40 hi hz0 hz1 (by omega) rfl w.heap.size (.slice op k cT) Z ((cr+t) % 10000) rfl (Ho.out.grown (aF _ _ none) (.inl rfl)) wr.heap.size rfl ?c1 (by rw [Zl.out];omega) (by simp;omega) ?_;(case c1=>exact (World.cell?_alloc_at _ _ _ _ rfl).trans (by simp));intro v' w3 ho3 g3;have cm:=Lib.hid ho3;have G3:=Lib.hid (fO (v:=.slice op k cT) g3 (Ho.out.grown (aF _ _ none) (.inl rfl)) (aE Gr.out (aF _ _ _)));have s3:=g3.size;clear ho3 g3)
   go_roundw
   case rel=>exact ⟨k+1,by go_num,int_eq (by rw [Hcs.out,HC.out];omega),by rw [Hcs.out];omega,by rw [HD.out];exact cm.out,G3.out,by simp at s3;omega⟩
   case measure=>
    have h:=HC.out
    have h2:(((cr:Int)+(t:Int)) / 10000)=((cs:Nat):Int):=by omega
    rw [h2]
    simp only [intOf]
    omega
  ·have y0:nth xs k=0:=cP xs (by rw [Hn.out];omega)
   rw [y0] at HC HD
   have hC:=HC.out
   clear y0
   by_cases hcr:cr=0
   ·subst hcr
    go_wp2_with fail
    refine (jz _ _ _ Z _ Ho.out.sl).mono ?_
    rintro e w' ⟨rfl,rfl⟩
    go_wp2_with fail
    go_ret
    have e:=K6 (m:=m) (c0:=c0) (by rw [Hn.out];omega) Hcr.out
    rw [HZ.out] at e
    have az:All 10000 Z:=by rw [<- HZ.out];exact d8 (fun j _=>qp (by omega) _ _ _)
    refine ⟨_,rfl,?_,Gr.out⟩
    rw [<- e,<- ct (by omega) az]
    exact (Zl.out▸Ho.out:Own wr 3 .i64 w.heap.size (.slice op Z.length cT) Z).trim
   ·have hcp:0<cr:=by omega
    go_wp2_with (at_builtin;refine fy rfl _ _ 40 rfl 3 i0 (.int .i64 0) .i64 Tryz.underlying40 hi hz0 hz1 (by omega) rfl w.heap.size (.slice op k cT) Z (cr % 10000) rfl (Ho.out.grown (aF _ _ none) (.inl rfl)) wr.heap.size rfl ?c1 (by rw [Zl.out];omega) (by simp;omega) ?_;(case c1=>exact (World.cell?_alloc_at _ _ _ _ rfl).trans (by simp));intro v' w3 ho3 g3;have cm:=Lib.hid ho3;have G3:=Lib.hid (fO (v:=.slice op k cT) g3 (Ho.out.grown (aF _ _ none) (.inl rfl)) (aE Gr.out (aF _ _ _)));have s3:=g3.size;clear ho3 g3)
    go_roundw
    case rel=>exact ⟨k+1,by go_num,int_eq (by rw [Hcs.out,HC.out];omega),by rw [Hcs.out];omega,by rw [HD.out];simpa using cm.out,G3.out,by simp at s3;omega⟩
    case measure=>simp only [intOf];omega
theorem yh {X k:Nat} (h:Bd X k):(af 10000 X).length<=3*k:=by
 refine eF (by omega) _ X ?_
 rw [Nat.pow_mul]
 exact Nat.lt_of_lt_of_le h (Nat.pow_le_pow_left (by omega) k)
def yi (w:World) (X:Nat) (e:Ending) (w':World):Prop:=
 ∃v,e = .returned (.tuple #[v,.int .i64 ((X % 65536:Nat):Int)])∧Own w' 3 .i64 w.heap.size v (af 10000 (X / 65536))∧w.grownBy w' none
set_option maxHeartbeats 1000000 in
theorem K8 {v:Value}{xs:List Nat}{w:World} (hx:Sl w .i64 v xs) (ax:All 10000 xs) (hlen:xs.length<=8796093022208) :
  Calls Tryz.prog 143 #[v,.int .i64 65536] w (yi w (val 10000 xs)):=by
 obtain ⟨p,cap,rfl,h1,h2,h3⟩:=id hx
 obtain ⟨i0,hi,hz0,hz1,hz2⟩:=info_parts Tryz.infoI
 have Hx:=Lib.hid hx
 have Ax:=Lib.hid ax
 have H3:=Lib.hid h3
 clear hx ax h3
 obtain ⟨n,hn⟩:∃n,xs.length=n:=⟨_,rfl⟩
 rw [hn] at hlen h1 ⊢
 have Hn:=Lib.hid hn
 clear hn
 go_enter Tryz.func143,Tryz.ntmps143
 go_wp2_with (at_make;refine eZ rfl _ _ 40 rfl 3 i0 (.int .i64 0) Tryz.underlying40 hi hz0 hz1 (by omega) rfl _ _ _ _ n n rfl rfl (by omega) (by omega) (Nat.le_refl _) (by omega) ?_;intro w1 r1 g1 s1;have R1:=Lib.hid r1;have G1:=Lib.hid g1;clear r1 g1)
 go_loopw [7,8] (fun cv i wr=>∃(k r:Nat) (q:Int) (Z:List Nat),k<=n∧i = .int .i64 q∧q=(k:Int)-1∧cv = .int .i64 r∧r<65536∧Z.length=n∧All 10000 Z ∧
   val 10000 (xs.drop k)=val 10000 (Z.drop k)*65536+r∧aw wr 3 w.heap.size n (fun j=>.int .i64 (nth Z j))∧w.grownBy wr none∧w.heap.size<wr.heap.size) (fun _ i _=>(intOf i+1).toNat)
 case atStart=>
  refine ⟨n,0,_,List.replicate n 0,by omega,rfl,rfl,rfl,by omega,by simp,All.iy (by omega) _,?_,R1.out.congr fun j hj=>by simp [nth,hj],G1.out,by omega⟩
  rw [List.drop_of_length_le (by rw [Hn.out];omega),List.drop_replicate,gI]
  simp [val]
 case round=>
  obtain ⟨k,r,q,Z,hk,rfl,hq,rfl,hr,zl,za,hv,rr,gr,sr⟩:=hrel
  have Zl:=Lib.hid zl
  have Za:=Lib.hid za
  have Hv:=Lib.hid hv
  have Gr:=Lib.hid gr
  cases k with
  | zero=>
   obtain rfl:q = -1:=by omega
   have ho:Own wr 3 .i64 w.heap.size (.slice (some ⟨w.heap.size,0,none⟩) n n) Z:=
    .inr ⟨w.heap.size,_,_,by rw [zl],Nat.le_refl _,rr,by omega,by omega,fun j _=>rfl⟩
   have Ho:=Lib.hid ho
   clear ho zl za hv gr rr hq
   go_wp2_with fail
   refine (jz _ _ _ Z _ Ho.out.sl).mono ?_
   rintro e w'' ⟨rfl,rfl⟩
   go_wp2_with fail
   go_ret2
   have hv:=Hv.out
   simp only [List.drop_zero] at hv
   have e1:val 10000 xs / 65536=val 10000 Z:=by omega
   have e2:val 10000 xs % 65536=r:=by omega
   refine ⟨_,by rw [e2];rfl,?_,Gr.out⟩
   rw [e1,<- ct (by omega) Za.out]
   exact Ho.out.trim
  | succ k=>
   obtain rfl:q=(k:Int):=by omega
   rcases H3.out with h3 | ⟨b,off,rfl,hbl,hy⟩
   ·have:=Hn.out;rw [h3] at this;simp at this;omega
   have c1:wr.cell? ⟨b,off+k,none⟩=some (.int .i64 (nth xs k)):=by
    rw [World.cell?_of_block (w:=w) (gr.block b hbl (by simp)),hy k (by rw [Hn.out];omega)]
   have b1:nth xs k<10000:=Ax.out.nth (by rw [Hn.out];omega)
   have f1:wr.frozen? ⟨w.heap.size,k,none⟩=false:=rr.frozen _
   have c2:wr.cell? ⟨w.heap.size,k,none⟩=some (.int .i64 (nth Z k)):=rr.cell (by omega)
   have i1:(k:Int)<(n:Int):=by omega
   have Rr:=Lib.hid rr
   clear hy zl za hv gr rr hq
   go_wp2
   go_roundw
   case rel=>
    refine ⟨k,(r*10000+nth xs k) % 65536,_,Z.set k ((r*10000+nth xs k) / 65536),by omega,rfl,rfl,int_eq (by omega),by omega,by rw [List.length_set,Zl.out],Za.out.set (by omega) k,?_,?_,bD Gr.out (be _ _ _ _) (Nat.le_refl _),by simpa using sr⟩
    ·rw [kV _ (by rw [Zl.out];omega),dw _ _ (by rw [Hn.out];omega),Hv.out]
     omega
    ·refine (aw.set Rr.out k _).congr fun j hj=>?_
     by_cases hjk:j=k
     ·subst hjk
      rw [fU,jo _ (by rw [Zl.out];omega)]
      exact int_eq (by omega)
     ·rw [upd_ne _ _ hjk,m5 _ _ hjk]
   case measure=>simp [intOf]
theorem lh {v:Value}{X:Nat}{w:World} (m c0:Nat) (hx:Sl w .i64 v (af 10000 X)) (hm:m<=65536) (hc:c0<=65536) (hlen:(af 10000 X).length<=8796093022208) :
  Calls Tryz.prog 155 #[v,.int .i64 m,.int .i64 c0] w (gT w (X*m+c0)):=by
 have:=K7 m c0 hx (cY (by omega) _) hm hc hlen
 rwa [bI (by omega)] at this
theorem yj {v:Value}{X:Nat}{w:World} (hx:Sl w .i64 v (af 10000 X)) (hlen:(af 10000 X).length<=8796093022208) :
  Calls Tryz.prog 143 #[v,.int .i64 65536] w (yi w X):=by
 have:=K8 hx (cY (by omega) _) hlen
 rwa [bI (by omega)] at this
theorem Lb {w w':World}{e e':TypeId}{k k':IntKind}{B B':Nat}{v u:Value}{xs ys:List Nat} (h:Own w e k B v xs) (h':Own w' e' k' B' u ys) (hs:w'.heap.size<=B):u.ownBlock=none∨v.ownBlock≠u.ownBlock:=by
 cases hu:u.ownBlock with
 | none=>exact .inl rfl
 | some g=>
  right
  intro e
  have:=(h.lt g e).1
  have:=(h'.lt g hu).2
  omega
theorem li {b m n:Nat} (hb:2<=b) (h:m<=n):(af b m).length<=(af b n).length:=
 eF hb _ _ (Nat.lt_of_le_of_lt h (fh hb n))
theorem Lc {n:Nat} (h:0<n):(af 10000 (n / 4294967296)).length<(af 10000 n).length:=by
 have h1:=fm (b:=10000) (by omega) h
 have h2:=li (b:=10000) (by omega) (show n / 4294967296<=n / 10000 by omega)
 rw [h1]
 simp
 omega
theorem Ld {X Y j:Nat} (hY:Y=X / 4294967296 ^ j) (h:0<Y):(af 4294967296 X).take j ++ [Y % 4294967296]=(af 4294967296 X).take (j+1)∧j<(af 4294967296 X).length:=by
 have hj:j<(af 4294967296 X).length:=by
  rcases Nat.lt_or_ge j (af 4294967296 X).length with hh | hh
  ·exact hh
  ·have h1:=fh (b:=4294967296) (by omega) X
   have h2:X<4294967296 ^ j:=Nat.lt_of_lt_of_le h1 (Nat.pow_le_pow_right (by omega) hh)
   rw [Nat.div_eq_of_lt h2] at hY
   omega
 refine ⟨?_,hj⟩
 rw [m6 _ hj,wJ (by omega),<- hY]
theorem Lf {X j:Nat} (hY:0=X / 4294967296 ^ j):(af 4294967296 X).take j=af 4294967296 X:=by
 refine List.take_of_length_le (eF (by omega) _ _ ?_)
 rcases Nat.lt_or_ge X (4294967296 ^ j) with h | h
 ·exact h
 ·have:=Nat.div_pos h (Nat.pow_pos (by omega))
  omega
set_option maxHeartbeats 1000000 in
theorem yk {v:Value}{X:Nat}{w:World} (hx:Sl w .i64 v (af 10000 X)) (hlen:(af 10000 X).length<=4000000) :
  Calls Tryz.prog 101 #[v] w (Made 152 .u32 w (af 4294967296 X)):=by
 obtain ⟨p,cap,rfl,-⟩:=id hx
 obtain ⟨i0,hi,hz0,hz1,hz2⟩:=info_parts Tryz.infoU
 obtain ⟨L,hL⟩:∃L,(af 10000 X).length=L:=⟨_,rfl⟩
 have Lx:=Lib.hid (show (af 4294967296 X).length<=(af 10000 X).length from eF (by omega) _ _ (Nat.lt_of_lt_of_le (fh (b:=10000) (by omega) X) (Nat.pow_le_pow_left (by omega) _)))
 rw [hL] at hx hlen Lx ⊢
 have Hx:=Lib.hid hx
 have HL:=Lib.hid hL
 clear hx hL
 go_enter Tryz.func101,Tryz.ntmps101
 go_wp2_with fail
 go_loopw [0,3] (fun av o wr=>∃(j Y:Nat),Hid (Y=X / 4294967296 ^ j)∧(af 10000 Y).length<=L∧Sl wr .i64 av (af 10000 Y)∧Own wr 152 .u32 w.heap.size o ((af 4294967296 X).take j)∧w.grownBy wr none) (fun av _ _=>lenOf av)
 case atStart=>
  refine ⟨0,X,by show X=_;simp,by rw [HL.out];omega,Hx.out,Own.nil _ _ _ _,aQ _ _⟩
 case round=>
  obtain ⟨j,Y,hY,hl,ha,ho,gr⟩:=hrel
  obtain ⟨ap,Qa,rfl,-⟩:=id ha
  obtain ⟨op,cT,rfl⟩:=ho.slice
  have Ha:=Lib.hid ha
  have Ho:=Lib.hid ho
  have Gr:=Lib.hid gr
  by_cases h0:Y=0
  ·subst h0
   clear ha ho gr
   have e:=fK 10000
   rw [e] at Ha ⊢
   rw [Lf hY.out] at Ho ⊢
   clear e
   go_wp2_with fail
   go_ret
   exact ⟨_,rfl,Ho.out,Gr.out⟩
  ·have hp:0<Y:=by omega
   have hl0:0<(af 10000 Y).length:=by
    have:=o6 (b:=10000) (n:=Y) (by omega)
    omega
   have Td:=Lib.hid (Ld hY.out hp)
   have Dn:=Lib.hid (Lc hp)
   have Dm:=Lib.hid (show (af 10000 (Y / 65536)).length<=L from Nat.le_trans (li (by omega) (Nat.div_le_self _ _)) hl)
   obtain ⟨LY,ru⟩:∃LY,(af 10000 Y).length=LY:=⟨_,rfl⟩
   have HLY:=Lib.hid ru
   rw [ru] at hl0 hl Ha ⊢
   obtain ⟨Z,hZ⟩:∃Z,(af 4294967296 X).take j=Z:=⟨_,rfl⟩
   have HZ:=Lib.hid hZ
   rw [hZ] at Ho ⊢
   have zl:Z.length<=L:=by
    rw [<- hZ,List.length_take]
    have:=Lx.out
    omega
   clear ha ho gr h0 ru hZ
   go_wp2_with fail
   refine (yj Ha.out (by rw [HLY.out];omega)).mono ?_
   rintro e w2 ⟨v2,rfl,ho2,g2⟩
   have Ho2:=Lib.hid ho2
   have G2:=Lib.hid (aE Gr.out g2)
   have OO:=Lib.hid (Ho.out.grown g2 (.inl rfl))
   clear ho2 g2
   go_wp2_with fail
   refine (yj Ho2.out.sl (by have:=Dm.out;omega)).mono ?_
   rintro e w3 ⟨v3,rfl,ho3,g3⟩
   have cm:=Lib.hid ho3
   have G3:=Lib.hid (aE G2.out g3)
   have ym:=Lib.hid (OO.out.grown g3 (.inl rfl))
   clear ho3 g3
   have oa:=Lb cm.out OO.out (Nat.le_refl _)
   have OB:=Lib.hid (show w.heap.size<=w3.heap.size from G3.out.size)
   have Oa:=Lib.hid oa
   clear oa
   go_wp2_with (at_builtin;refine fy rfl _ _ 49 rfl 152 i0 (.int .u32 0) .u32 Tryz.underlying49 hi hz0 hz1 (by omega) rfl w.heap.size (.slice op Z.length cT) Z (Y % 4294967296) rfl (ym.out.grown (aF _ _ none) (.inl rfl)) w3.heap.size rfl ?c1 (by omega) (by have:=OB.out;simp;omega) ?_;(case c1=>exact (World.cell?_alloc_at _ _ _ _ rfl).trans (by simp;omega));intro v' w4 ho4 g4;have Ho4:=Lib.hid ho4;have G4:=Lib.hid (fO (v:=.slice op Z.length cT) g4 (ym.out.grown (aF _ _ none) (.inl rfl)) (aE G3.out (aF _ _ _)));have A4:=Lib.hid ((cm.out.sl.grown (aF _ _ none) (.inl rfl)).grown g4 Oa.out);clear ho4 g4)
   go_roundw
   case rel=>
    refine ⟨j+1,Y / 4294967296,?_,?_,?_,?_,G4.out⟩
    ·show _=_
     rw [hY.out,Nat.pow_succ,Nat.div_div_eq_div_mul]
    ·have:=Dn.out;have:=HLY.out;omega
    ·have e:Y / 65536 / 65536=Y / 4294967296:=by omega
     rw [<- e];exact A4.out
    ·rw [<- Td.out.1,HZ.out];exact Ho4.out
   case measure=>
    obtain ⟨p3,v9,rfl⟩:=cm.out.slice
    have:=Dn.out
    have:=HLY.out
    have e:Y / 65536 / 65536=Y / 4294967296:=by omega
    simp only [lenOf,e]
    omega
def lj (w:World) (r:Int) (e:Ending) (w':World):Prop:=e = .returned (.int .i64 r)∧∃n,w'=w.drewN n
set_option maxHeartbeats 400000 in
theorem Lg (p q:Option Addr) (n m cap cap':Nat) (w:World) (h:n<m) :
  Calls Tryz.prog 137 #[.slice p n cap,.slice q m cap'] w (lj w (-1)):=by
 go_enter Tryz.func137,Tryz.ntmps137
 go_wp2
 go_ret
 exact ⟨rfl,0,rfl⟩
set_option maxHeartbeats 400000 in
theorem Lh (p q:Option Addr) (n m cap cap':Nat) (w:World) (h:m<n) :
  Calls Tryz.prog 137 #[.slice p n cap,.slice q m cap'] w (lj w 1):=by
 go_enter Tryz.func137,Tryz.ntmps137
 go_wp2
 go_ret
 exact ⟨rfl,0,rfl⟩
set_option maxHeartbeats 400000 in
theorem yn (p q:Option Addr) (cap cap':Nat) (w:World) :
  Calls Tryz.prog 137 #[.slice p 0 cap,.slice q 0 cap'] w (lj w 0):=by
 go_enter Tryz.func137,Tryz.ntmps137
 go_wp2
 refine wp_loop_rounds 1 ?_
 rw [rounds_succ]
 go_wp2
 go_ret
 exact ⟨rfl,0,rfl⟩
set_option maxHeartbeats 400000 in
theorem Li (b off cap b' off' cap':Nat) (a c:List Nat) (w:World) (heq:a.length=c.length) (hlen:a.length<=9223372036854775807)
  (hca:∀j,j<a.length->w.cell? ⟨b,off+j,none⟩=some (.int .i64 (nth a j))) (hcc:∀j,j<c.length->w.cell? ⟨b',off'+j,none⟩=some (.int .i64 (nth c j))) (all:All 10000 a) (all':All 10000 c) :
  Calls Tryz.prog 137 #[.slice (some ⟨b,off,none⟩) a.length cap,.slice (some ⟨b',off',none⟩) a.length cap'] w (lj w (ij (val 10000 a) (val 10000 c))):=by
 have He:=Lib.hid heq
 have L1:a.length<=c.length:=by omega
 have L2:c.length<=a.length:=by omega
 have Al:=Lib.hid all
 have qc:=Lib.hid all'
 clear heq all all'
 go_enter Tryz.func137,Tryz.ntmps137
 go_wp2_with fail
 go_loopw [5] (fun i wr=>∃(k n:Nat) (q:Int),k<=a.length∧i = .int .i64 q∧q=(k:Int)-1∧wr=w.drewN n∧a.drop k=c.drop k) (fun i _=>(intOf i+1).toNat)
 case atStart=>exact ⟨a.length,0,_,Nat.le_refl _,rfl,rfl,rfl,by rw [List.drop_length,He.out,List.drop_length]⟩
 case round=>
  obtain ⟨k,d,q,hk,rfl,hq,rfl,hdr⟩:=hrel
  have HD:=Lib.hid hdr
  clear hdr
  cases k with
  | zero=>
   obtain rfl:q = -1:=by omega
   clear hq
   go_wp2
   go_ret
   refine ⟨?_,_,rfl⟩
   have:a=c:=by simpa using HD.out
   simp [ij,this]
  | succ k=>
   obtain rfl:q=(k:Int):=by omega
   clear hq
   have ka:=hca k (by omega)
   have kc:=hcc k (by omega)
   clear hca hcc
   have b1:(k:Int)<(a.length:Int):=by omega
   by_cases hne:nth a k=nth c k
   ·have hb:(((nth a k:Nat):Int) != ((nth c k:Nat):Int))=false:=by rw [hne];simp
    have HE:=Lib.hid hne
    clear hne
    go_wp2
    go_quiet (fail)
    go_wp2
    go_roundw
    case rel=>exact ⟨k,_,_,by omega,rfl,rfl,rfl,by rw [kN a (by omega),kN c (by omega),HE.out,HD.out]⟩
    case measure=>simp [intOf]
   ·have hb:(((nth a k:Nat):Int) != ((nth c k:Nat):Int))=true:=by rw [bne_iff_ne];omega
    go_wp2
    go_quiet (fail)
    go_wp2
    have Fl:((w.drewN d).drewN nq).cell? ⟨b,off+k,none⟩=some (.int .i64 (nth a k)):=ka
    have Fm:((w.drewN d).drewN nq).cell? ⟨b',off'+k,none⟩=some (.int .i64 (nth c k)):=kc
    generalize hw2:(w.drewN d).drewN nq=w2 at *
    have mQ:=Lib.hid hw2
    clear hw2
    have V1:=Lib.hid (fun h=>gD (mR (b:=10000) (show k<a.length by omega) (show k<c.length by omega) HD.out Al.out h))
    have V2:=Lib.hid (fun h=>mS (mR (b:=10000) (show k<c.length by omega) (show k<a.length by omega) HD.out.symm qc.out h))
    clear ka kc
    rcases Nat.lt_or_ge (nth a k) (nth c k) with h | h
    ·have hb2:decide (((nth a k:Nat):Int)<((nth c k:Nat):Int))=true:=decide_eq_true (by omega)
     go_quiet (fail)
     go_wp2
     go_ret
     obtain rfl:=mQ.out
     exact ⟨eg (V1.out h).symm,_,by rw [World.drewN_drewN,World.drewN_drewN]⟩
    ·have hb2:decide (((nth a k:Nat):Int)<((nth c k:Nat):Int))=false:=decide_eq_false (by omega)
     have h':nth c k<nth a k:=by omega
     go_quiet (fail)
     go_wp2
     go_ret
     obtain rfl:=mQ.out
     exact ⟨eg (V2.out h').symm,_,by rw [World.drewN_drewN,World.drewN_drewN]⟩
theorem yo {v u:Value}{X Y:Nat}{w:World} (hx:Sl w .i64 v (af 10000 X)) (hy:Sl w .i64 u (af 10000 Y)) :
  Calls Tryz.prog 137 #[v,u] w (lj w (ij X Y)):=by
 obtain ⟨p,cap,rfl,h1,h2,h3⟩:=hx
 obtain ⟨p',cap',rfl,h1',h2',h3'⟩:=hy
 rcases Nat.lt_trichotomy (af 10000 X).length (af 10000 Y).length with h | h | h
 ·rw [gD (tc (by omega) h)]
  exact Lg _ _ _ _ _ _ _ h
 ·rcases h3 with h3 | ⟨b,off,rfl,h4,h5⟩
  ·have hX:X=0:=(qH (by omega)).1 h3
   have hY:Y=0:=by
    rw [h3] at h
    exact (o6 (by omega)).1 h.symm
   subst hX
   subst hY
   rw [qf]
   exact yn _ _ _ _ _
  ·rcases h3' with h3' | ⟨b',off',rfl,h4',h5'⟩
   ·have hY:Y=0:=(qH (by omega)).1 h3'
    have hX:X=0:=by
     rw [h3'] at h
     exact (o6 (by omega)).1 h
    subst hX
    subst hY
    rw [qf]
    exact yn _ _ _ _ _
   ·have q:=Li b off cap b' off' cap' (af 10000 X) (af 10000 Y) w h (by omega) h5 h5' (cY (by omega) _) (cY (by omega) _)
    rw [bI (by omega),bI (by omega)] at q
    rw [<- h]
    exact q
 ·rw [mS (tc (by omega) h)]
  exact Lh _ _ _ _ _ _ _ h
theorem Lj {X Y k:Nat} (hx:(af 10000 X).length<=k) (hy:(af 10000 Y).length<=k) (h0:a7 10000 (nth (af 10000 X)) (nth (af 10000 Y)) k=0)
  (hc:k=0∨k-1<(af 10000 X).length∨k-1<(af 10000 Y).length∨0<a7 10000 (nth (af 10000 X)) (nth (af 10000 Y)) (k-1)) :
  pre (cE 10000 (nth (af 10000 X)) (nth (af 10000 Y))) k=af 10000 (X+Y):=by
 have hv:val 10000 (pre (cE 10000 (nth (af 10000 X)) (nth (af 10000 Y))) k)=X+Y:=by
  have:=kO 10000 (nth (af 10000 X)) (nth (af 10000 Y)) k
  rw [h0,db _ _ hx,db _ _ hy,bI (by omega),bI (by omega)] at this
  omega
 have ha:All 10000 (pre (cE 10000 (nth (af 10000 X)) (nth (af 10000 Y))) k):=d8 (fun j _=>mU (by omega) _ _ _)
 have ht:fk (pre (cE 10000 (nth (af 10000 X)) (nth (af 10000 Y))) k):=by
  refine Kd ha ?_
  rw [hv,ce]
  rcases hc with rfl | hc
  ·exact .inl rfl
  right
  by_cases h1:k-1<(af 10000 X).length
  ·have:=qj (b:=10000) (n:=X) (by omega) (by omega)
   rw [show k-1=(af 10000 X).length-1 by omega]
   omega
  by_cases h2:k-1<(af 10000 Y).length
  ·have:=qj (b:=10000) (n:=Y) (by omega) (by omega)
   rw [show k-1=(af 10000 Y).length-1 by omega]
   omega
  have h3:0<a7 10000 (nth (af 10000 X)) (nth (af 10000 Y)) (k-1):=by
   rcases hc with hc | hc | hc
   ·exact absurd hc h1
   ·exact absurd hc h2
   ·exact hc
  have:=kO 10000 (nth (af 10000 X)) (nth (af 10000 Y)) (k-1)
  rw [db _ _ (by omega),db _ _ (by omega),bI (by omega),bI (by omega)] at this
  have h4:=Nat.mul_le_mul_left (10000 ^ (k-1)) h3
  omega
 rw [<- hv,qh (by omega) ha ht]
set_option maxHeartbeats 2000000 in
theorem Lk {v u:Value}{X Y:Nat}{w:World} (hx:Sl w .i64 v (af 10000 X)) (hy:Sl w .i64 u (af 10000 Y)) (lx:(af 10000 X).length<=4000000) (ly:(af 10000 Y).length<=4000000) :
  Calls Tryz.prog 136 #[v,u] w (gT w (X+Y)):=by
 have tp:=Lib.hid (fun k=>Lj (X:=X) (Y:=Y) (k:=k))
 have ax:=Lib.hid (cY (b:=10000) (by omega) X)
 have ay:=Lib.hid (cY (b:=10000) (by omega) Y)
 obtain ⟨p,cap,rfl,h1,h2,h3⟩:=id hx
 obtain ⟨q,bz,rfl,h1',h2',h3'⟩:=id hy
 obtain ⟨i0,hi,hz0,hz1,hz2⟩:=info_parts Tryz.infoI
 generalize hdx:af 10000 X=xs at *
 generalize hdy:af 10000 Y=ys at *
 obtain ⟨n,hn⟩:∃n,xs.length=n:=⟨_,rfl⟩
 obtain ⟨m,hm⟩:∃m,ys.length=m:=⟨_,rfl⟩
 rw [hn] at lx h1 ⊢
 rw [hm] at ly h1' ⊢
 have H3:=Lib.hid h3
 have H3':=Lib.hid h3'
 have Hn:=Lib.hid hn
 have Hm:=Lib.hid hm
 clear h3 h3' hn hm hx hy hdx hdy h2 h2'
 have Cb:=Lib.hid (fun k=>qg (b:=10000) (f:=nth xs) (g:=nth ys) (aT (by omega) ax.out) (aT (by omega) ay.out) k)
 go_enter Tryz.func136,Tryz.ntmps136
 go_wp2_with fail
 go_loopw [5,6,7] (fun o cv i wr=>∃k:Nat,i = .int .i64 k∧cv = .int .i64 (a7 10000 (nth xs) (nth ys) k:Nat)∧k+a7 10000 (nth xs) (nth ys) k<=n+m+1∧Hid (k=0∨k-1<n∨k-1<m∨0<a7 10000 (nth xs) (nth ys) (k-1))∧Own wr 3 .i64 w.heap.size o (pre (cE 10000 (nth xs) (nth ys)) k)∧w.grownBy wr none) (fun _ _ i _=>(n+m+2-(intOf i).toNat))
 case atStart=>exact ⟨0,rfl,rfl,by simp [a7],.inl rfl,Own.nil _ _ _ _,aQ _ _⟩
 case round=>
  obtain ⟨k,rfl,rfl,hk,hco,ho,gr⟩:=hrel
  obtain ⟨op,cT,rfl⟩:=ho.slice
  have cb:=Cb.out k
  have cb':=Cb.out (k+1)
  have HC:=Lib.hid (show a7 10000 (nth xs) (nth ys) (k+1)=(a7 10000 (nth xs) (nth ys) k+(nth xs k+nth ys k)) / 10000 from rfl)
  have HD:=Lib.hid (show pre (cE 10000 (nth xs) (nth ys)) (k+1)=pre (cE 10000 (nth xs) (nth ys)) k ++ [(a7 10000 (nth xs) (nth ys) k+(nth xs k+nth ys k)) % 10000] from qJ _ _)
  obtain ⟨Z,hZ⟩:∃Z,pre (cE 10000 (nth xs) (nth ys)) k=Z:=⟨_,rfl⟩
  have zl:Z.length=k:=by rw [<- hZ,ce]
  rw [hZ] at HD ho ⊢
  rw [zl] at ho ⊢
  have HZ:=Lib.hid hZ
  have Ho:=Lib.hid ho
  have Gr:=Lib.hid gr
  have Zl:=Lib.hid zl
  generalize hcr:a7 10000 (nth xs) (nth ys) k=cr at *
  have Hcr:=Lib.hid hcr
  generalize hcs:a7 10000 (nth xs) (nth ys) (k+1)=cs at *
  have Hcs:=Lib.hid hcs
  have b1:nth xs k<10000:=aT (by omega) ax.out k
  have b2:nth ys k<10000:=aT (by omega) ay.out k
  clear hZ ho gr hcr hcs zl
  by_cases hx:k<n
  ·rcases H3.out with h3 | ⟨b,off,rfl,hbl,hyx⟩
   ·have:=Hn.out;rw [h3] at this;simp at this;omega
   have c1:wr.cell? ⟨b,off+k,none⟩=some (.int .i64 (nth xs k)):=by
    rw [World.cell?_of_block (w:=w) (Gr.out.block b hbl (by simp)),hyx k (by rw [Hn.out];omega)]
   clear hyx
   by_cases hy:k<m
   ·rcases H3'.out with h3' | ⟨b',off',rfl,iH,hyy⟩
    ·have:=Hm.out;rw [h3'] at this;simp at this;omega
    have c2:wr.cell? ⟨b',off'+k,none⟩=some (.int .i64 (nth ys k)):=by
     rw [World.cell?_of_block (w:=w) (Gr.out.block b' iH (by simp)),hyy k (by rw [Hm.out];omega)]
    clear hyy
    go_wp2_with (at_builtin;refine fy rfl _ _ 40 rfl 3 i0 (.int .i64 0) .i64 Tryz.underlying40 hi hz0 hz1 (by omega) rfl w.heap.size (.slice op k cT) Z ((cr+(nth xs k+nth ys k)) % 10000) rfl (Ho.out.grown (aF _ _ none) (.inl rfl)) wr.heap.size rfl ?c1 (by rw [Zl.out];omega) (by have:=Gr.out.size;simp;omega) ?_;(case c1=>exact (World.cell?_alloc_at _ _ _ _ rfl).trans (by simp;try omega));intro v' w3 ho3 g3;have cm:=Lib.hid ho3;have G3:=Lib.hid (fO (v:=.slice op k cT) g3 (Ho.out.grown (aF _ _ none) (.inl rfl)) (aE Gr.out (aF _ _ _)));clear ho3 g3)
    go_roundw
    case rel=>
     refine ⟨k+1,by go_num,int_eq (by have:=HC.out;have:=Hcs.out;omega),by rw [Hcs.out];have:=HC.out;omega,.inr (.inl (by omega)),?_,G3.out⟩
     rw [HD.out]
     exact cm.out
    case measure=>simp [intOf];omega
   ·have y1:nth ys k=0:=cP ys (by rw [Hm.out];omega)
    rw [y1] at HC HD
    go_wp2_with (at_builtin;refine fy rfl _ _ 40 rfl 3 i0 (.int .i64 0) .i64 Tryz.underlying40 hi hz0 hz1 (by omega) rfl w.heap.size (.slice op k cT) Z ((cr+(nth xs k+0)) % 10000) rfl (Ho.out.grown (aF _ _ none) (.inl rfl)) wr.heap.size rfl ?c1 (by rw [Zl.out];omega) (by have:=Gr.out.size;simp;omega) ?_;(case c1=>exact (World.cell?_alloc_at _ _ _ _ rfl).trans (by simp;try omega));intro v' w3 ho3 g3;have cm:=Lib.hid ho3;have G3:=Lib.hid (fO (v:=.slice op k cT) g3 (Ho.out.grown (aF _ _ none) (.inl rfl)) (aE Gr.out (aF _ _ _)));clear ho3 g3)
    go_roundw
    case rel=>
     refine ⟨k+1,by go_num,int_eq (by have:=HC.out;have:=Hcs.out;omega),by rw [Hcs.out];have:=HC.out;omega,.inr (.inl (by omega)),?_,G3.out⟩
     rw [HD.out]
     exact cm.out
    case measure=>simp [intOf];omega
  ·have y0:nth xs k=0:=cP xs (by rw [Hn.out];omega)
   rw [y0] at HC HD
   by_cases hy:k<m
   ·rcases H3'.out with h3' | ⟨b',off',rfl,iH,hyy⟩
    ·have:=Hm.out;rw [h3'] at this;simp at this;omega
    have c2:wr.cell? ⟨b',off'+k,none⟩=some (.int .i64 (nth ys k)):=by
     rw [World.cell?_of_block (w:=w) (Gr.out.block b' iH (by simp)),hyy k (by rw [Hm.out];omega)]
    clear hyy
    go_wp2_with (at_builtin;refine fy rfl _ _ 40 rfl 3 i0 (.int .i64 0) .i64 Tryz.underlying40 hi hz0 hz1 (by omega) rfl w.heap.size (.slice op k cT) Z ((cr+(0+nth ys k)) % 10000) rfl (Ho.out.grown (aF _ _ none) (.inl rfl)) wr.heap.size rfl ?c1 (by rw [Zl.out];omega) (by have:=Gr.out.size;simp;omega) ?_;(case c1=>exact (World.cell?_alloc_at _ _ _ _ rfl).trans (by simp;try omega));intro v' w3 ho3 g3;have cm:=Lib.hid ho3;have G3:=Lib.hid (fO (v:=.slice op k cT) g3 (Ho.out.grown (aF _ _ none) (.inl rfl)) (aE Gr.out (aF _ _ _)));clear ho3 g3)
    go_roundw
    case rel=>
     refine ⟨k+1,by go_num,int_eq (by have:=HC.out;have:=Hcs.out;omega),by rw [Hcs.out];have:=HC.out;omega,.inr (.inr (.inl (by omega))),?_,G3.out⟩
     rw [HD.out]
     exact cm.out
    case measure=>simp [intOf];omega
   ·have y1:nth ys k=0:=cP ys (by rw [Hm.out];omega)
    rw [y1] at HC HD
    by_cases hcr:cr=0
    ·have hl:Hid (pre (cE 10000 (nth xs) (nth ys)) k=af 10000 (X+Y)):=tp.out k (by rw [Hn.out];omega) (by rw [Hm.out];omega) (by rw [Hcr.out];exact hcr) (by rw [Hn.out,Hm.out];exact hco.out)
     subst hcr
     go_wp2_with fail
     go_ret
     exact ⟨_,rfl,by rw [<- hl.out,HZ.out];exact Ho.out,Gr.out⟩
    ·obtain rfl:cr=1:=by omega
     clear hcr
     go_wp2_with (at_builtin;refine fy rfl _ _ 40 rfl 3 i0 (.int .i64 0) .i64 Tryz.underlying40 hi hz0 hz1 (by omega) rfl w.heap.size (.slice op k cT) Z ((1+(0+0)) % 10000) rfl (Ho.out.grown (aF _ _ none) (.inl rfl)) wr.heap.size rfl ?c1 (by rw [Zl.out];omega) (by have:=Gr.out.size;simp;omega) ?_;(case c1=>exact (World.cell?_alloc_at _ _ _ _ rfl).trans (by simp;try omega));intro v' w3 ho3 g3;have cm:=Lib.hid ho3;have G3:=Lib.hid (fO (v:=.slice op k cT) g3 (Ho.out.grown (aF _ _ none) (.inl rfl)) (aE Gr.out (aF _ _ _)));clear ho3 g3)
     go_roundw
     case rel=>
      refine ⟨k+1,by go_num,int_eq (by have:=HC.out;have:=Hcs.out;omega),by rw [Hcs.out];have:=HC.out;omega,.inr (.inr (.inr (by show 0<a7 _ _ _ k;rw [Hcr.out];omega))),?_,G3.out⟩
      rw [HD.out]
      exact cm.out
     case measure=>simp [intOf];omega
set_option maxHeartbeats 2000000 in
theorem yp {v u:Value}{X Y:Nat}{w:World} (hx:Sl w .i64 v (af 10000 X)) (hy:Sl w .i64 u (af 10000 Y)) (lx:(af 10000 X).length<=4000000) (hle:Y<=X) :
  Calls Tryz.prog 138 #[v,u] w (gT w (X-Y)):=by
 have ax:=Lib.hid (cY (b:=10000) (by omega) X)
 have ay:=Lib.hid (cY (b:=10000) (by omega) Y)
 have hml:=li (b:=10000) (by omega) hle
 have Fin:=Lib.hid (show val 10000 (pre (pF 10000 (nth (af 10000 X)) (nth (af 10000 Y))) (af 10000 X).length)=X-Y by
  have:=wd ax.out ay.out (by omega) hml (by rw [bI (by omega),bI (by omega)];exact hle)
  rwa [bI (by omega),bI (by omega)] at this)
 obtain ⟨p,cap,rfl,h1,h2,h3⟩:=id hx
 obtain ⟨q,bz,rfl,h1',h2',h3'⟩:=id hy
 obtain ⟨i0,hi,hz0,hz1,hz2⟩:=info_parts Tryz.infoI
 generalize hdx:af 10000 X=xs at *
 generalize hdy:af 10000 Y=ys at *
 obtain ⟨n,hn⟩:∃n,xs.length=n:=⟨_,rfl⟩
 obtain ⟨m,hm⟩:∃m,ys.length=m:=⟨_,rfl⟩
 rw [hn] at lx h1 Fin hml ⊢
 rw [hm] at hml h1' ⊢
 obtain ⟨Z,hZ⟩:∃Z,pre (pF 10000 (nth xs) (nth ys)) n=Z:=⟨_,rfl⟩
 have zl:Z.length=n:=by rw [<- hZ,ce]
 have hZn:∀j,j<n->nth Z j=pF 10000 (nth xs) (nth ys) j:=fun j hj=>by rw [<- hZ];exact dG _ hj
 have za:All 10000 Z:=by rw [<- hZ];exact d8 (fun j _=>qn (aT (by omega) ax.out) j)
 rw [hZ] at Fin
 have H3:=Lib.hid h3
 have H3':=Lib.hid h3'
 have Hn:=Lib.hid hn
 have Hm:=Lib.hid hm
 have Zl:=Lib.hid zl
 have HZn:=Lib.hid hZn
 have Za:=Lib.hid za
 clear h3 h3' hn hm hx hy hdx hdy h2 h2' hZ zl hZn za hle
 go_enter Tryz.func138,Tryz.ntmps138
 go_wp2_with (at_make;refine eZ rfl _ _ 40 rfl 3 i0 (.int .i64 0) Tryz.underlying40 hi hz0 hz1 (by omega) rfl _ _ _ _ n n rfl rfl (by omega) (by omega) (Nat.le_refl _) (by omega) ?_;intro w1 r1 g1 s1;have R1:=Lib.hid r1;have G1:=Lib.hid g1;clear r1 g1)
 go_loopw [6,14] (fun cv i wr=>∃k:Nat,k<=n∧i = .int .i64 k∧cv = .int .i64 (aM (nth xs) (nth ys) k:Nat)∧aw wr 3 w.heap.size n (lay (fun _=>.int .i64 0) 0 k .i64 Z)∧w.grownBy wr none∧w.heap.size<wr.heap.size) (fun _ i _=>(n-(intOf i).toNat))
 case atStart=>exact ⟨0,by omega,rfl,rfl,by rw [fx];exact R1.out,G1.out,by omega⟩
 case round=>
  obtain ⟨k,hk,rfl,rfl,rr,gr,sr⟩:=hrel
  have Gr:=Lib.hid gr
  by_cases hx:k<n
  ·rcases H3.out with h3 | ⟨b,off,rfl,hbl,hyx⟩
   ·have:=Hn.out;rw [h3] at this;simp at this;omega
   have c1:wr.cell? ⟨b,off+k,none⟩=some (.int .i64 (nth xs k)):=by
    rw [World.cell?_of_block (w:=w) (gr.block b hbl (by simp)),hyx k (by rw [Hn.out];omega)]
   clear hyx
   have f1:wr.frozen? ⟨w.heap.size,k,none⟩=false:=rr.frozen _
   have c3:wr.cell? ⟨w.heap.size,k,none⟩=some (.int .i64 0):=by rw [rr.cell (by omega),cu _ _ _ (by omega)]
   have b1:nth xs k<10000:=aT (by omega) ax.out k
   have b2:nth ys k<10000:=aT (by omega) ay.out k
   have i1:(k:Int)<(n:Int):=by omega
   have HS:=Lib.hid (show nth Z k+(nth ys k+aM (nth xs) (nth ys) k)=nth xs k+10000*aM (nth xs) (nth ys) (k+1) by
    rw [HZn.out k hx];exact mZ (aT (by omega) ay.out) k)
   have HC:=Lib.hid (show aM (nth xs) (nth ys) (k+1)=if nth xs k<nth ys k+aM (nth xs) (nth ys) k then 1 else 0 from rfl)
   have hcr:=kT (nth xs) (nth ys) k
   generalize aM (nth xs) (nth ys) k=cr at *
   have RR:=Lib.hid rr
   clear rr gr
   by_cases hy:k<m
   ·rcases H3'.out with h3' | ⟨b',off',rfl,iH,hyy⟩
    ·have:=Hm.out;rw [h3'] at this;simp at this;omega
    have c2:wr.cell? ⟨b',off'+k,none⟩=some (.int .i64 (nth ys k)):=by
     rw [World.cell?_of_block (w:=w) (Gr.out.block b' iH (by simp)),hyy k (by rw [Hm.out];omega)]
    clear hyy
    by_cases hs:nth xs k<nth ys k+cr
    ·have hs2:((nth xs k:Nat):Int)-(cr:Int)-((nth ys k:Nat):Int)<0:=by omega
     have HC1:Hid (aM (nth xs) (nth ys) (k+1)=1):=by show _=_;rw [HC.out];exact if_pos hs
     have HE:Hid (nth Z k+(nth ys k+cr)=nth xs k+10000*1):=by show _=_;rw [HS.out,HC1.out]
     go_wp2
     go_roundw
     case rel=>
      refine ⟨k+1,by omega,by go_num,by rw [HC1.out];try rfl,?_,bD Gr.out (be _ _ _ _) (Nat.le_refl _),by simpa using sr⟩
      rw [<- eL _ k .i64 Z rfl]
      refine (RR.out.set k _).congr fun j _=>?_
      congr 1
      exact int_eq (by have:=HE.out;omega)
     case measure=>simp [intOf];omega
    ·have hs2:¬((nth xs k:Nat):Int)-(cr:Int)-((nth ys k:Nat):Int)<0:=by omega
     have HC1:Hid (aM (nth xs) (nth ys) (k+1)=0):=by show _=_;rw [HC.out];exact if_neg hs
     have HE:Hid (nth Z k+(nth ys k+cr)=nth xs k+10000*0):=by show _=_;rw [HS.out,HC1.out]
     go_wp2
     go_roundw
     case rel=>
      refine ⟨k+1,by omega,by go_num,by rw [HC1.out];try rfl,?_,bD Gr.out (be _ _ _ _) (Nat.le_refl _),by simpa using sr⟩
      rw [<- eL _ k .i64 Z rfl]
      refine (RR.out.set k _).congr fun j _=>?_
      congr 1
      exact int_eq (by have:=HE.out;omega)
     case measure=>simp [intOf];omega
   ·have y1:nth ys k=0:=cP ys (by rw [Hm.out];omega)
    by_cases hs:nth xs k<nth ys k+cr
    ·have hs2:((nth xs k:Nat):Int)-(cr:Int)<0:=by omega
     have HC1:Hid (aM (nth xs) (nth ys) (k+1)=1):=by show _=_;rw [HC.out];exact if_pos hs
     have HE:Hid (nth Z k+(nth ys k+cr)=nth xs k+10000*1):=by show _=_;rw [HS.out,HC1.out]
     go_wp2
     go_roundw
     case rel=>
      refine ⟨k+1,by omega,by go_num,by rw [HC1.out];try rfl,?_,bD Gr.out (be _ _ _ _) (Nat.le_refl _),by simpa using sr⟩
      rw [<- eL _ k .i64 Z rfl]
      refine (RR.out.set k _).congr fun j _=>?_
      congr 1
      exact int_eq (by have:=HE.out;omega)
     case measure=>simp [intOf];omega
    ·have hs2:¬((nth xs k:Nat):Int)-(cr:Int)<0:=by omega
     have HC1:Hid (aM (nth xs) (nth ys) (k+1)=0):=by show _=_;rw [HC.out];exact if_neg hs
     have HE:Hid (nth Z k+(nth ys k+cr)=nth xs k+10000*0):=by show _=_;rw [HS.out,HC1.out]
     go_wp2
     go_roundw
     case rel=>
      refine ⟨k+1,by omega,by go_num,by rw [HC1.out];try rfl,?_,bD Gr.out (be _ _ _ _) (Nat.le_refl _),by simpa using sr⟩
      rw [<- eL _ k .i64 Z rfl]
      refine (RR.out.set k _).congr fun j _=>?_
      congr 1
      exact int_eq (by have:=HE.out;omega)
     case measure=>simp [intOf];omega
  ·obtain rfl:k=n:=by omega
   have ho:Own wr 3 .i64 w.heap.size (.slice (some ⟨w.heap.size,0,none⟩) k k) Z:=
    .inr ⟨w.heap.size,_,_,by rw [Zl.out],Nat.le_refl _,rr,by rw [Zl.out];omega,by omega,fun j hj=>fw _ _ _ (by rw [Zl.out] at hj;exact hj)⟩
   have Ho:=Lib.hid ho
   clear ho rr gr
   go_wp2_with fail
   refine (jz _ _ _ Z _ Ho.out.sl).mono ?_
   rintro e w'' ⟨rfl,rfl⟩
   go_wp2_with fail
   go_ret
   refine ⟨_,rfl,?_,Gr.out⟩
   rw [<- Fin.out,<- ct (by omega) Za.out]
   exact Ho.out.trim
theorem Ll {b k:Nat}{xs:List Nat} (t:Nat) (h:k<xs.length):val b (xs.set k t)+b ^ k*nth xs k=val b xs+b ^ k*t:=by
 have e1:=o7 b xs (k:=k) (by omega)
 have e2:=o7 b (xs.set k t) (k:=k) (by rw [List.length_set];omega)
 rw [kV t h,List.take_set_of_le (Nat.le_refl _)] at e2
 rw [dw b xs h] at e1
 rw [e1,e2,Nat.mul_add,Nat.mul_add]
 omega
theorem Lm (b:Nat) (ys:List Nat) (k:Nat):val b (ys.take (k+1))=val b (ys.take k)+b ^ k*nth ys k:=by
 rcases Nat.lt_or_ge k ys.length with h | h
 ·exact fL b ys h
 ·rw [List.take_of_length_le (by omega),List.take_of_length_le h,cP ys h,Nat.mul_zero,Nat.add_zero]
theorem yq {R ys:List Nat}{i k c x V0 s:Nat} (hk:i+k<R.length) (h:val 10000 R+10000 ^ (i+k)*c=V0+10000 ^ i*(x*val 10000 (ys.take k))) (hs:nth R (i+k)+c+x*nth ys k=s) :
  val 10000 (R.set (i+k) (s % 10000))+10000 ^ (i+(k+1))*(s / 10000)=V0+10000 ^ i*(x*val 10000 (ys.take (k+1))):=by
 have e1:=Ll (b:=10000) (s % 10000) hk
 have e2:=Nat.mod_add_div s 10000
 have e3:10000 ^ (i+k)*(s % 10000)+10000 ^ (i+(k+1))*(s / 10000)=10000 ^ (i+k)*s:=by
  rw [<- Nat.add_assoc,Nat.pow_succ,Nat.mul_assoc,<- Nat.mul_add,e2]
 have e4:10000 ^ (i+k)*s=10000 ^ (i+k)*nth R (i+k)+10000 ^ (i+k)*c+10000 ^ (i+k)*(x*nth ys k):=by rw [<- hs,Nat.mul_add,Nat.mul_add]
 have e5:10000 ^ i*(x*val 10000 (ys.take (k+1)))=10000 ^ i*(x*val 10000 (ys.take k))+10000 ^ (i+k)*(x*nth ys k):=by
  rw [Lm,Nat.mul_add,Nat.mul_add,Nat.pow_add,Nat.mul_assoc,Nat.mul_left_comm x]
 omega
theorem Ln {xs ys R:List Nat}{i k c:Nat} (ax:All 10000 xs) (ay:All 10000 ys) (hi:i<xs.length) (hk:ys.length<=k) (hc:0<c)
  (h:val 10000 R+10000 ^ (i+k)*c=val 10000 (xs.take i)*val 10000 ys+10000 ^ i*(nth xs i*val 10000 (ys.take k))):k=ys.length:=by
 rw [List.take_of_length_le hk,<- Nat.mul_assoc,<- Nat.add_mul,<- fL 10000 xs hi] at h
 have h1:=cX (ax.take (i+1))
 rw [List.length_take,Nat.min_eq_left (by omega)] at h1
 have h2:=cX ay
 have h3:val 10000 (xs.take (i+1))*val 10000 ys<10000 ^ (i+1)*10000 ^ ys.length:=Nat.mul_lt_mul'' h1 h2
 rw [<- Nat.pow_add] at h3
 have h4:10000 ^ (i+k)<=10000 ^ (i+k)*c:=Nat.le_mul_of_pos_right _ hc
 have h5:10000 ^ (i+k)<10000 ^ (i+1+ys.length):=by omega
 have:=(Nat.pow_lt_pow_iff_right (a:=10000) (by omega)).1 h5
 omega
theorem Lo {xs ys R:List Nat}{i k:Nat} (hi:i<xs.length) (hk:ys.length<=k)
  (h:val 10000 R+10000 ^ (i+k)*0=val 10000 (xs.take i)*val 10000 ys+10000 ^ i*(nth xs i*val 10000 (ys.take k))):val 10000 R=val 10000 (xs.take (i+1))*val 10000 ys:=by
 rw [List.take_of_length_le hk,<- Nat.mul_assoc,<- Nat.add_mul,<- fL 10000 xs hi] at h
 simpa using h
theorem rx {w:World}{e:TypeId}{g N:Nat}{k:IntKind}{R:List Nat}{j t:Nat}{v:Value} (hl:R.length=N) (h:aw w e g N (fun j=>.int k (nth R j))) (hj:j<N) (hv:v = .int k (t:Int)) :
  aw (w.setCell ⟨g,j,none⟩ v) e g N (fun i=>.int k (nth (R.set j t) i)):=by
 refine (h.set j v).congr fun i hi=>?_
 by_cases hij:i=j
 ·subst hij
  rw [fU,jo _ (by omega),hv]
 ·rw [upd_ne _ _ hij,m5 _ _ hij]
set_option maxHeartbeats 2000000 in
theorem Lp {v u:Value}{X Y:Nat}{w:World} (hx:Sl w .i64 v (af 10000 X)) (hy:Sl w .i64 u (af 10000 Y)) (lx:(af 10000 X).length<=4000000) (ly:(af 10000 Y).length<=4000000) :
  Calls Tryz.prog 117 #[v,u] w (gT w (X*Y)):=by
 have ax:=Lib.hid (cY (b:=10000) (by omega) X)
 have ay:=Lib.hid (cY (b:=10000) (by omega) Y)
 have vx:=Lib.hid (bI (b:=10000) (by omega) X)
 have vy:=Lib.hid (bI (b:=10000) (by omega) Y)
 obtain ⟨p,cap,rfl,h1,h2,h3⟩:=id hx
 obtain ⟨q,bz,rfl,h1',h2',h3'⟩:=id hy
 obtain ⟨i0,hi,hz0,hz1,hz2⟩:=info_parts Tryz.infoI
 generalize hdx:af 10000 X=xs at *
 generalize hdy:af 10000 Y=ys at *
 obtain ⟨n,hn⟩:∃n,xs.length=n:=⟨_,rfl⟩
 obtain ⟨m,hm⟩:∃m,ys.length=m:=⟨_,rfl⟩
 rw [hn] at lx h1 ⊢
 rw [hm] at ly h1' ⊢
 have H3:=Lib.hid h3
 have H3':=Lib.hid h3'
 have Hn:=Lib.hid hn
 have Hm:=Lib.hid hm
 clear h3 h3' hn hm hx hy hdx hdy h2 h2'
 go_enter Tryz.func117,Tryz.ntmps117
 go_wp2_with (at_make;refine eZ rfl _ _ 40 rfl 3 i0 (.int .i64 0) Tryz.underlying40 hi hz0 hz1 (by omega) rfl _ _ _ _ (n+m) (n+m) rfl rfl (by omega) (by omega) (Nat.le_refl _) (by omega) ?_;intro w1 r1 g1 s1;have R1:=Lib.hid r1;have G1:=Lib.hid g1;clear r1 g1)
 go_loopw [18] (fun iv wr=>∃(i:Nat) (R:List Nat),i<=n∧iv = .int .i64 i∧R.length=n+m∧All 10000 R∧val 10000 R=val 10000 (xs.take i)*val 10000 ys∧aw wr 3 w.heap.size (n+m) (fun j=>.int .i64 (nth R j))∧w.grownBy wr none∧w.heap.size<wr.heap.size) (fun iv _=>(n-(intOf iv).toNat))
 case atStart=>exact ⟨0,List.replicate (n+m) 0,by omega,rfl,by simp,All.iy (by omega) _,by simp [gI,val],R1.out.congr fun j hj=>by simp [nth,hj],G1.out,by omega⟩
 case round=>
  obtain ⟨i,R,hin,rfl,rl,ra,rv,rr,gr,sr⟩:=hrel
  have Rl:=Lib.hid rl
  have Ra:=Lib.hid ra
  have Rv:=Lib.hid rv
  have RR:=Lib.hid rr
  have Gr:=Lib.hid gr
  clear rl ra rv rr gr
  by_cases hx:i<n
  ·go_wp2_with fail
   go_loopw [7,8] (fun cv kv wr=>∃(k c:Nat) (R:List Nat),k<=m+1∧kv = .int .i64 k∧cv = .int .i64 c∧c<10000∧Hid (R.length=n+m)∧Hid (All 10000 R)∧Hid (val 10000 R+10000 ^ (i+k)*c=val 10000 (xs.take i)*val 10000 ys+10000 ^ i*(nth xs i*val 10000 (ys.take k)))∧Hid (aw wr 3 w.heap.size (n+m) (fun j=>.int .i64 (nth R j)))∧Hid (w.grownBy wr none)∧w.heap.size<wr.heap.size) (fun _ kv _=>(m+2-(intOf kv).toNat))
   case atStart=>exact ⟨0,0,R,by omega,rfl,rfl,by omega,Rl,Ra,by show _=_;rw [Rv.out];simp [val],RR,Gr,sr⟩
   case round=>
    clear R Rl Ra Rv RR Gr sr
    obtain ⟨k,c,R,hk,rfl,rfl,hc,Rl,Ra,Rv,RR,Gr,sr⟩:=hrel
    have b0:nth R (i+k)<10000:=aT (by omega) Ra.out _
    have bx:nth xs i<10000:=aT (by omega) ax.out _
    by_cases hy:k<m
    ·rcases H3.out with h3 | ⟨b,off,rfl,hbl,hyx⟩
     ·have:=Hn.out;rw [h3] at this;simp at this;omega
     have c1:wr.cell? ⟨b,off+i,none⟩=some (.int .i64 (nth xs i)):=by
      rw [World.cell?_of_block (w:=w) (Gr.out.block b hbl (by simp)),hyx i (by rw [Hn.out];omega)]
     clear hyx
     rcases H3'.out with h3' | ⟨b',off',rfl,iH,hyy⟩
     ·have:=Hm.out;rw [h3'] at this;simp at this;omega
     have c2:wr.cell? ⟨b',off'+k,none⟩=some (.int .i64 (nth ys k)):=by
      rw [World.cell?_of_block (w:=w) (Gr.out.block b' iH (by simp)),hyy k (by rw [Hm.out];omega)]
     clear hyy
     have c3:wr.cell? ⟨w.heap.size,i+k,none⟩=some (.int .i64 (nth R (i+k))):=RR.out.cell (by omega)
     have f1:wr.frozen? ⟨w.heap.size,i+k,none⟩=false:=RR.out.frozen _
     have b2:nth ys k<10000:=aT (by omega) ay.out k
     have i1:(k:Int)<(m:Int):=by omega
     have i2:(i:Int)<(n:Int):=by omega
     have i3:(i:Int)+(k:Int)<(n:Int)+(m:Int):=by omega
     have HS:=Lib.hid (fun s=>yq (s:=s) (by rw [Rl.out];omega) Rv.out)
     have hp:=Nat.mul_le_mul (show nth xs i<=9999 by omega) (show nth ys k<=9999 by omega)
     obtain ⟨t,ht⟩:∃t,nth xs i*nth ys k=t:=⟨_,rfl⟩
     rw [ht] at hp HS
     have ht':((nth xs i:Nat):Int)*((nth ys k:Nat):Int)=(t:Int):=by rw [<- ht,Int.natCast_mul]
     clear ht
     go_wp2
     go_quiet (fail)
     have c3':(wr.drewN nq).cell? ⟨w.heap.size,i+k,none⟩=some (.int .i64 (nth R (i+k))):=c3
     have f1':(wr.drewN nq).frozen? ⟨w.heap.size,i+k,none⟩=false:=f1
     go_wp2
     go_roundw
     case rel=>
      obtain ⟨s,hs⟩:∃s,nth R (i+k)+c+t=s:=⟨_,rfl⟩
      refine ⟨k+1,s / 10000,R.set (i+k) (s % 10000),by omega,by go_num,int_eq (by omega),by omega,?_,?_,HS.out s hs,?_,?_,by simpa using sr⟩
      ·show _=_
       rw [List.length_set,Rl.out]
      ·exact Ra.out.set (by omega) _
      ·exact rx Rl.out (show aw (wr.drewN nq) _ _ _ _ from RR.out) (by omega) (int_eq (by omega))
      ·exact bD (aE Gr.out (eQ _ _ _)) (be _ _ _ _) (Nat.le_refl _)
     case measure=>simp [intOf] <;> omega
    ·by_cases hc0:c=0
     ·subst hc0
      have RD:=Lib.hid (Lo (by rw [Hn.out];omega) (by rw [Hm.out];omega) Rv.out)
      go_wp2
      go_roundw
      case rel=>exact ⟨i+1,R,by omega,by go_num,Rl.out,Ra.out,RD.out,RR.out,Gr.out,sr⟩
      case measure=>simp [intOf] <;> omega
     ·have hkm:k=m:=by
       rw [<- Hm.out]
       exact Ln ax.out ay.out (by rw [Hn.out];omega) (by rw [Hm.out];omega) (by omega) Rv.out
      subst hkm
      have y1:nth ys k=0:=cP ys (by rw [Hm.out];omega)
      have c3:wr.cell? ⟨w.heap.size,i+k,none⟩=some (.int .i64 (nth R (i+k))):=RR.out.cell (by omega)
      have f1:wr.frozen? ⟨w.heap.size,i+k,none⟩=false:=RR.out.frozen _
      have i3:(i:Int)+(k:Int)<(n:Int)+(k:Int):=by omega
      have HS:=Lib.hid (fun s=>yq (s:=s) (by rw [Rl.out];omega) Rv.out)
      rw [y1,Nat.mul_zero] at HS
      clear y1
      have hcp:0<c:=by omega
      go_wp2
      go_roundw
      case rel=>
       obtain ⟨s,hs⟩:∃s,nth R (i+k)+c+0=s:=⟨_,rfl⟩
       refine ⟨k+1,s / 10000,R.set (i+k) (s % 10000),by omega,by go_num,int_eq (by omega),by omega,?_,?_,HS.out s hs,?_,?_,by simpa using sr⟩
       ·show _=_
        rw [List.length_set,Rl.out]
       ·exact Ra.out.set (by omega) _
       ·exact rx Rl.out RR.out (by omega) (int_eq (by omega))
       ·exact bD Gr.out (be _ _ _ _) (Nat.le_refl _)
      case measure=>simp [intOf] <;> omega
  ·obtain rfl:i=n:=by omega
   have ho:Own wr 3 .i64 w.heap.size (.slice (some ⟨w.heap.size,0,none⟩) (i+m) (i+m)) R:=
    .inr ⟨w.heap.size,_,_,by rw [Rl.out],Nat.le_refl _,RR.out,by rw [Rl.out];omega,by omega,fun j hj=>rfl⟩
   have Ho:=Lib.hid ho
   clear ho
   go_wp2_with fail
   refine (jz _ _ _ R _ Ho.out.sl).mono ?_
   rintro e w'' ⟨rfl,rfl⟩
   go_wp2_with fail
   go_ret
   refine ⟨_,rfl,?_,Gr.out⟩
   have e:X*Y=val 10000 R:=by rw [Rv.out,List.take_of_length_le (by rw [Hn.out];omega),vx.out,vy.out]
   rw [e,<- ct (by omega) Ra.out]
   exact Ho.out.trim
def Lq (w:World) (Q R:Nat) (e:Ending) (w':World):Prop:=
 ∃v u,e = .returned (.tuple #[v,u])∧Own w' 3 .i64 w.heap.size v (af 10000 Q)∧Own w' 3 .i64 w.heap.size u (af 10000 R)∧w.grownBy w' none
theorem yr (w:World) (e:TypeId) (k:IntKind) (x:Nat) (B:Nat) (hB:B<=w.heap.size):Own (w.alloc (.cells #[.int k x] e)) e k B (.slice (some ⟨w.heap.size,0,none⟩) 1 1) [x]:=by
 refine .inr ⟨w.heap.size,1,fun _=>.int k x,rfl,hB,?_,Nat.le_refl _,by omega,fun j hj=>?_⟩
 ·exact aw.made w #[.int k x] e _ (fun j hj=>by
   have:j=0:=by simpa using hj
   subst this;rfl)
 ·have:j=0:=by simpa using hj
  subst this;rfl
theorem Lr {a r:Nat} (ha:a<10000):trim ([a] ++ af 10000 r)=af 10000 (a+10000*r):=by
 have h:All 10000 ([a] ++ af 10000 r):=All.cons ha (cY (by omega) _)
 rw [ct (by omega) h]
 simp [val,bI]
theorem Ls {lo hi m:Nat} (hm:(lo+hi+1) / 2=m) (hl:lo<hi):lo<m∧m<=hi:=by omega
theorem Lt (p:Option Addr) (a b c d:Nat):(Value.slice p a b).ownBlock=(Value.slice p c d).ownBlock:=by
 cases p <;> simp [Value.ownBlock]
theorem Lu (Y:Nat):(af 10000 (10000*Y)).length<=(af 10000 Y).length+1:=by
 refine eF (by omega) _ _ ?_
 have:=fh (b:=10000) (by omega) Y
 rw [Nat.pow_succ]
 omega
theorem Lv {V A Z r a T Y l:Nat} (h:A=Z*Y+r) (hT:a+10000*r=T) (hl:Y*l<=T) (hV:V=a+10000*A):V=(l+10000*Z)*Y+(T-Y*l):=by
 obtain ⟨d,rfl⟩:∃d,T=Y*l+d:=⟨T-Y*l,by omega⟩
 rw [Nat.add_sub_cancel_left,hV,h,Nat.add_mul,Nat.mul_add,Nat.mul_comm l Y,Nat.mul_assoc]
 omega
set_option maxHeartbeats 2000000 in
theorem Lw {v u:Value}{X Y:Nat}{w:World} (hx:Sl w .i64 v (af 10000 X)) (hy:Sl w .i64 u (af 10000 Y)) (lx:(af 10000 X).length<=3000000) (ly:(af 10000 Y).length<=3000000) (hY:0<Y) :
  Calls Tryz.prog 116 #[v,u] w (Lq w (X / Y) (X % Y)):=by
 have ax:=Lib.hid (cY (b:=10000) (by omega) X)
 have vx:=Lib.hid (bI (b:=10000) (by omega) X)
 obtain ⟨p,cap,rfl,h1,h2,h3⟩:=id hx
 obtain ⟨q,bz,rfl,-⟩:=id hy
 obtain ⟨i0,hi,hz0,hz1,hz2⟩:=info_parts Tryz.infoI
 generalize hdx:af 10000 X=xs at *
 obtain ⟨n,hn⟩:∃n,xs.length=n:=⟨_,rfl⟩
 rw [hn] at lx h1 ⊢
 have H3:=Lib.hid h3
 have Hn:=Lib.hid hn
 have Hy:=Lib.hid hy
 clear h3 hn hx hy hdx h2
 go_enter Tryz.func116,Tryz.ntmps116
 go_wp2_with (at_make;refine eZ rfl _ _ 40 rfl 3 i0 (.int .i64 0) Tryz.underlying40 hi hz0 hz1 (by omega) rfl _ _ _ _ n n rfl rfl (by omega) (by omega) (Nat.le_refl _) (by omega) ?_;intro w1 r1 g1 s1;have R1:=Lib.hid r1;have G1:=Lib.hid g1;clear r1 g1)
 go_loopw [7,8] (fun rv iv wr=>∃(k r:Nat) (q:Int) (Z:List Nat),k<=n∧iv = .int .i64 q∧q=(k:Int)-1∧Hid (r<Y)∧Hid (Z.length=n)∧Hid (All 10000 Z) ∧
   Hid (val 10000 (xs.drop k)=val 10000 (Z.drop k)*Y+r)∧Hid (Own wr 3 .i64 w.heap.size rv (af 10000 r))∧Hid (aw wr 3 w.heap.size n (fun j=>.int .i64 (nth Z j)))∧Hid (w.grownBy wr none)∧w.heap.size<wr.heap.size) (fun _ i _=>(intOf i+1).toNat)
 case atStart=>
  refine ⟨n,0,_,List.replicate n 0,by omega,rfl,rfl,hY,?_,All.iy (by omega) _,?_,Own.nil _ _ _ _,R1.out.congr fun j hj=>by simp [nth,hj],G1.out,by omega⟩
  ·show _=_
   simp
  ·show _=_
   rw [List.drop_of_length_le (by rw [Hn.out];omega),List.drop_replicate,gI]
   simp [val]
 case round=>
  obtain ⟨k,r,q,Z,hk,rfl,hq,Hr,Zl,Za,Hv,Ro,Rr,Gr,sr⟩:=hrel
  have Rs:=Lib.hid Ro.out.sl
  obtain ⟨rp,LA,rfl,-⟩:=id Rs.out
  cases k with
  | zero=>
   obtain rfl:q = -1:=by omega
   have ho:Own wr 3 .i64 w.heap.size (.slice (some ⟨w.heap.size,0,none⟩) n n) Z:=
    .inr ⟨w.heap.size,_,_,by rw [Zl.out],Nat.le_refl _,Rr.out,by rw [Zl.out];omega,by omega,fun j _=>rfl⟩
   have Ho:=Lib.hid ho
   clear ho hq
   go_wp2_with fail
   refine (jz _ _ _ Z _ Ho.out.sl).mono ?_
   rintro e w'' ⟨rfl,rfl⟩
   go_wp2_with fail
   go_ret2
   have hv:=Hv.out
   simp only [List.drop_zero] at hv
   rw [vx.out] at hv
   have e1:X / Y=val 10000 Z:=by
    rw [hv,Nat.mul_comm,Nat.mul_add_div hY,Nat.div_eq_of_lt Hr.out];omega
   have e2:X % Y=r:=by
    rw [hv,Nat.mul_comm,Nat.mul_add_mod,Nat.mod_eq_of_lt Hr.out]
   refine ⟨_,_,rfl,?_,by rw [e2];exact Ro.out,Gr.out⟩
   rw [e1,<- ct (by omega) Za.out]
   exact Ho.out.trim
  | succ k=>
   obtain rfl:q=(k:Int):=by omega
   rcases H3.out with h3 | ⟨b,off,rfl,hbl,hyx⟩
   ·have:=Hn.out;rw [h3] at this;simp at this;omega
   have c1:wr.cell? ⟨b,off+k,none⟩=some (.int .i64 (nth xs k)):=by
    rw [World.cell?_of_block (w:=w) (Gr.out.block b hbl (by simp)),hyx k (by rw [Hn.out];omega)]
   have b1:nth xs k<10000:=ax.out.nth (by rw [Hn.out];omega)
   have i1:(k:Int)<(n:Int):=by omega
   have OO:=Lib.hid (yr wr 3 .i64 (nth xs k) wr.heap.size (Nat.le_refl _))
   have lr:=Lib.hid (Nat.le_trans (li (b:=10000) (by omega) (Nat.le_of_lt Hr.out)) ly)
   have yu:=Lib.hid (Rs.out.grown (aF wr (.cells #[.int .i64 (nth xs k:Nat)] 3) none) (.inl rfl))
   have Tr:=Lib.hid (Lr (r:=r) b1)
   clear hyx hq
   go_wp2_with (at_builtin;refine z7 rfl _ _ 40 rfl 3 i0 (.int .i64 0) .i64 Tryz.underlying40 hi hz0 hz1 (by omega) rfl wr.heap.size (.slice (some ⟨wr.heap.size,0,none⟩) 1 1) [nth xs k] rfl OO.out rp (af 10000 r).length LA (af 10000 r) rfl yu.out (by have:=lr.out;simp;omega) (by simp) ?_;intro v' w3 ho3 g3;have cm:=Lib.hid ho3;have G3:=Lib.hid g3;clear ho3 g3)
   have GW3:=Lib.hid (fO (v:=.slice (some ⟨wr.heap.size,0,none⟩) 1 1) G3.out (OO.out.mono (show w.heap.size<=_ by omega)) (aE Gr.out (aF _ _ _)))
   have Rr3:=Lib.hid ((Rr.out.grown (aF wr (.cells #[.int .i64 (nth xs k:Nat)] 3) none) (by simp)).grown G3.out (by simp [Value.ownBlock];omega))
   have s3:w.heap.size<w3.heap.size:=by have:=G3.out.size;simp at this;omega
   obtain ⟨vp,vc,rfl⟩:=cm.out.slice
   refine (jz _ _ _ _ _ cm.out.sl).mono ?_
   rintro e w'' ⟨rfl,rfl⟩
   obtain ⟨T,hT⟩:∃T,nth xs k+10000*r=T:=⟨_,rfl⟩
   have hTl:T<10000*Y:=by have:=Hr.out;omega
   rw [hT] at Tr
   have HT:=Lib.hid hT
   have Va:=Lib.hid (fun g (hg:(Value.slice vp (af 10000 T).length vc).ownBlock=some g)=>(cm.out.lt g ((Lt vp _ _ _ _).trans hg)).1)
   have St:=Lib.hid (show Sl w3 .i64 (.slice vp (af 10000 T).length vc) (af 10000 T) by rw [<- Tr.out];exact cm.out.sl.trim)
   rw [Tr.out]
   clear hT OO yu Rs Rr G3 cm Tr c1
   go_wp2_with fail
   go_loopw [9,10] (fun lo hi wr=>∃l h:Nat,lo = .int .i64 l∧hi = .int .i64 h∧l<=h∧h<=9999∧Hid (Y*l<=T)∧Hid (T<Y*(h+1))∧Hid (w3.grownBy wr none)) (fun lo hi _=>(intOf hi-intOf lo).toNat)
   case atStart=>exact ⟨0,9999,rfl,rfl,by omega,by omega,by show _<=_;omega,by show _<_;omega,aQ _ _⟩
   case round=>
    have Qb:=sr
    obtain ⟨l,h,rfl,rfl,hlh,h99,Hl,Hh,G4⟩:=hrel
    have G5:=Lib.hid (aE GW3.out G4.out)
    have Hy5:=Lib.hid (Hy.out.grown G5.out (.inl rfl))
    have St5:=Lib.hid (St.out.grown G4.out (.inl rfl))
    have nn:=Lib.hid (Rr3.out.grown G4.out (by simp))
    have s5:w.heap.size<wr.heap.size:=Nat.lt_of_lt_of_le s3 G4.out.size
    by_cases hlt:l<h
    ·obtain ⟨m,hm⟩:∃m,(l+h+1) / 2=m:=⟨_,rfl⟩
     obtain ⟨hm1,hm2⟩:=Ls hm hlt
     have hm':((l:Int)+(h:Int)+1) / 2=(m:Int):=by omega
     have Ha:=Lib.hid hm
     clear hm
     go_wp2_with fail
     refine (lh m 0 Hy5.out (by omega) (by omega) (by omega)).mono ?_
     rintro e w4 ⟨v4,rfl,ho4,g4⟩
     rw [Nat.add_zero] at ho4
     have Ho4:=Lib.hid ho4
     have G6:=Lib.hid (aE G4.out g4)
     have ry:=Lib.hid (St5.out.grown g4 (.inl rfl))
     have sg:=g4.size
     clear ho4 g4
     go_wp2_with fail
     refine (yo Ho4.out.sl ry.out).mono ?_
     rintro e w5 ⟨rfl,dn,rfl⟩
     have G7:=Lib.hid (aE G6.out (eQ w4 dn none))
     by_cases hle:Y*m<=T
     ·have hc:ij (Y*m) T<=0:=wN.2 hle
      have Hle:=Lib.hid hle
      clear hle
      generalize ij (Y*m) T=cv at *
      go_wp2_with fail
      go_roundw
      case rel=>exact ⟨m,h,rfl,rfl,hm2,h99,Hle.out,Hh.out,G7.out⟩
      case measure=>simp only [intOf];omega
     ·have hc:¬ij (Y*m) T<=0:=fun h=>hle (wN.1 h)
      have Hle:=Lib.hid hle
      clear hle
      generalize ij (Y*m) T=cv at *
      go_wp2_with fail
      go_roundw
      case rel=>exact ⟨l,m-1,rfl,int_eq (by omega),by omega,by omega,Hl.out,by show _<_;rw [show m-1+1=m by omega];have:=Hle.out;omega,G7.out⟩
      case measure=>simp only [intOf];omega
    ·obtain rfl:l=h:=by omega
     have f1:wr.frozen? ⟨w.heap.size,k,none⟩=false:=nn.out.frozen _
     have c1:wr.cell? ⟨w.heap.size,k,none⟩=some (.int .i64 (nth Z k)):=nn.out.cell (by omega)
     have LB:=Lib.hid (rx (t:=l) (v:=.int .i64 l) Zl.out nn.out (show k<n by omega) rfl)
     have G6:=Lib.hid (bD G5.out (be wr w.heap.size k (.int .i64 l)) (Nat.le_refl _))
     have Hy6:=Lib.hid (Hy.out.grown G6.out (.inl rfl))
     have ry:=Lib.hid (St5.out.grown (be wr w.heap.size k (.int .i64 l)) (.inr (fun e=>by have:=Va.out _ e;omega)))
     clear St5 Hy5 nn St
     go_wp2_with fail
     have sw:w.heap.size<(wr.setCell { block:=w.heap.size,off:=k } (Value.int IntKind.i64 l)).heap.size:=by simpa using s5
     generalize wr.setCell { block:=w.heap.size,off:=k } (Value.int IntKind.i64 l)=w6 at *
     refine (lh l 0 Hy6.out (by omega) (by omega) (by omega)).mono ?_
     rintro e w7 ⟨v7,rfl,ho7,g7⟩
     rw [Nat.add_zero] at ho7
     have Ho7:=Lib.hid ho7
     have G7:=Lib.hid (aE G6.out g7)
     have St7:=Lib.hid (ry.out.grown g7 (.inl rfl))
     have LD:=Lib.hid (LB.out.grown g7 (by simp))
     have s7:=g7.size
     have lT:=Lib.hid (show (af 10000 T).length<=4000000 from by
      have e1:=li (b:=10000) (by omega) (Nat.le_of_lt hTl)
      have e2:=Lu Y
      omega)
     clear ho7 g7
     go_wp2_with fail
     refine (yp St7.out Ho7.out.sl lT.out Hl.out).mono ?_
     rintro e w8 ⟨v8,rfl,ho8,g8⟩
     have Ho8:=Lib.hid ho8
     have s8:=g8.size
     have G8:=Lib.hid (aE G7.out g8)
     have LE:=Lib.hid (LD.out.grown g8 (by simp))
     clear ho8 g8
     go_wp2_with fail
     go_roundw
     case rel=>
      refine ⟨k,T-Y*l,_,Z.set k l,by omega,rfl,rfl,?_,?_,Za.out.set (by omega) k,?_,Ho8.out.mono (by omega),LE.out,G8.out,by omega⟩
      ·show _<_
       have h1:=Hh.out
       have h2:=Hl.out
       rw [Nat.mul_add] at h1
       omega
      ·show _=_
       rw [List.length_set,Zl.out]
      ·show _=_
       rw [kV _ (by rw [Zl.out];omega)]
       exact Lv Hv.out HT.out Hl.out (dw _ _ (by rw [Hn.out];omega))
     case measure=>simp [intOf]
theorem LG (i:Nat):(af 10000 (2 ^ i)).length<=i+1:=by
 refine eF (by omega) _ _ ?_
 exact Nat.lt_of_lt_of_le (Nat.pow_lt_pow_right (a:=2) (by omega) (Nat.lt_succ_self i)) (Nat.pow_le_pow_left (by omega) _)
set_option maxHeartbeats 1000000 in
theorem LH (n:Nat) (w:World) (hn:n<=1000000):Calls Tryz.prog 112 #[.int .i64 n] w (gT w (2 ^ n)):=by
 have OO:=Lib.hid (yr w 3 .i64 1 w.heap.size (Nat.le_refl _))
 have G0:=Lib.hid (aF w (.cells #[.int .i64 1] 3) none)
 go_enter Tryz.func112,Tryz.ntmps112
 go_wp2_with fail
 go_loopw [3,4] (fun o i wr=>∃k:Nat,k<=n∧i = .int .i64 k∧Own wr 3 .i64 w.heap.size o (af 10000 (2 ^ k))∧w.grownBy wr none) (fun _ i _=>(n-(intOf i).toNat))
 case atStart=>exact ⟨0,by omega,rfl,by rw [Nat.pow_zero,qI (by omega) (by omega) (by omega)];exact OO.out,G0.out⟩
 case round=>
  obtain ⟨k,hk,rfl,ho,gr⟩:=hrel
  have Ho:=Lib.hid ho
  have Gr:=Lib.hid gr
  clear ho gr
  by_cases hlt:k<n
  ·have hl:=Lib.hid (LG k)
   go_wp2_with fail
   refine (lh 2 0 Ho.out.sl (by omega) (by omega) (by have:=hl.out;omega)).mono ?_
   rintro e w4 ⟨v4,rfl,ho4,g4⟩
   have Ho4:=Lib.hid (ho4.mono Gr.out.size)
   have G4:=Lib.hid (aE Gr.out g4)
   clear ho4 g4
   go_wp2_with fail
   go_roundw
   case rel=>exact ⟨k+1,by omega,by go_num,by rw [Nat.pow_succ];exact Ho4.out,G4.out⟩
   case measure=>simp [intOf];omega
  ·obtain rfl:k=n:=by omega
   go_wp2_with fail
   go_ret
   exact ⟨_,rfl,Ho.out,Gr.out⟩
end Go.Proofs.YthmcngjhkmpneaaGreat
