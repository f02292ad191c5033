/- Package whole: Pow. -/
import Derived.Test.YthmcngjhkmpneaaGreatBx
import Derived.Deep.DeepCutAuto
set_option maxRecDepth 100000
namespace Go.Proofs.YthmcngjhkmpneaaGreat
open Go.RowKit
set_option maxHeartbeats 4000000 in
theorem Kr (x:Int) (w:World) (h0:0<=x) (h1:x<65536) :
  Calls Tryz.prog 171 #[.int .u64 x] w fun e w'=>e = .returned (.int .i64 (Lib.bitLen x.toNat))∧w=w':=by
 have R:∀(i:Int) (w:World),0<=i->i<=255->(Instr.index 9 (.string Lib.len8tab) (.int .u8 i)).run Tryz.prog w = .ok (.int .u8 (Lib.len8 i)) w:=fun i w a b=>Lib.run_index_len8tab w 9 .u8 i Tryz.underlying9 a (by omega)
 by_cases c2:256<=x
 ·have r:=fun w=>R (x / 256) w (by omega) (by omega)
  have B:=Lib.hid (Lib.bitLen_shift8 x.toNat (by omega) (by omega))
  have E:=Lib.hid (show (x / 256).toNat=x.toNat / 256 by omega)
  have L:=Lib.hid (Lib.bitLen_le8' (x / 256) (by omega) (by omega))
  have K:=Lib.hid (Lib.len8_of (x / 256) (by omega) (by omega))
  clear R
  have a1:0<=Lib.len8 (x / 256):=by rw [K.out];omega
  have a2:Lib.len8 (x / 256)<=8:=by rw [K.out];have:=L.out;omega
  go_enter Tryz.func171,Tryz.ntmps171
  go_wp2
  go_ret
  refine ⟨eg ?_,rfl⟩
  rw [B.out,<- E.out,K.out];omega
 ·have r:=fun w=>R x w (by omega) (by omega)
  have L:=Lib.hid (Lib.bitLen_le8' x (by omega) (by omega))
  have K:=Lib.hid (Lib.len8_of x (by omega) (by omega))
  clear R
  have a1:0<=Lib.len8 x:=by rw [K.out];omega
  have a2:Lib.len8 x<=8:=by rw [K.out];have:=L.out;omega
  go_enter Tryz.func171,Tryz.ntmps171
  go_wp2
  go_ret
  refine ⟨eg ?_,rfl⟩
  rw [K.out]
theorem Ks (k:Nat) (w:World) (hk:k<65536):Calls Tryz.prog 132 #[.int .u64 k] w fun e w'=>e = .returned (.int .i64 (Lib.bitLen k))∧w=w':=by
 go_enter Tryz.func132,Tryz.ntmps132
 go_wp2_with fail
 refine (Kr k _ (by omega) (by omega)).mono ?_
 rintro e w' ⟨rfl,rfl⟩
 rw [Int.toNat_natCast]
 obtain ⟨l,hl⟩:∃l,Lib.bitLen k=l:=⟨_,rfl⟩
 have Hl:=Lib.hid hl
 rw [hl]
 clear hl
 go_wp2_with fail
 go_ret
 exact ⟨by rw [Hl.out];rfl,rfl⟩
theorem Kt:∀x:Fin 257,bits .and .i64 ((x.val:Nat):Int) 1=((x.val % 2:Nat):Int):=by decide +kernel
theorem Ku {a:Int}{i:Nat} (h:Bd a.natAbs i) (m:Nat):Bd (a ^ m).natAbs (i*m+1):=by
 unfold Bd at *
 rw [Int.natAbs_pow]
 refine Nat.lt_of_le_of_lt (Nat.pow_le_pow_left (Nat.le_of_lt h) m) ?_
 rw [<- Nat.pow_mul]
 exact Nat.pow_lt_pow_right (by omega) (Nat.lt_succ_self _)
theorem c6.pow {w:World}{v:Value}{a:Int}{i m k:Nat} (h:c6 w v (a ^ m)) (hb:Bd a.natAbs i) (hk:i*m+1<=k):aj w v (a ^ m) k:=h.pV ((Ku hb m).more hk)
theorem c6.x5 {w:World}{v:Value}{a z:Int}{i m k:Nat} (h:c6 w v z) (hz:z=a ^ m) (hb:Bd a.natAbs i) (hk:i*m+1<=k):aj w v z k:=by
 subst hz
 exact c6.pow h hb hk
theorem Kv (a:Int) (m:Nat):a ^ m*a ^ m=a ^ (2*m):=by rw [<- Int.pow_add];congr 1;omega
theorem rk {w:World}{B g:Nat}{u v x y:Value}{z:Int} (h:cD w B (.agg #[u,v]) z) (hne:v.ownBlock≠some g):cD (set2 w g x y) B (.agg #[u,v]) z:=by
 obtain ⟨p,cap,h1,h2⟩:=h
 refine ⟨p,cap,h1,h2.grown (ep _ _ _ _) (.inr ?_)⟩
 simp only [Value.agg.injEq,Array.mk.injEq,List.cons.injEq,and_true] at h1
 rw [<- h1.2]
 exact hne
theorem cD.mono {w:World}{B B':Nat}{v:Value}{z:Int} (h:cD w B v z) (hB:B'<=B):cD w B' v z:=by
 obtain ⟨p,cap,h1,h2⟩:=h
 exact ⟨p,cap,h1,h2.mono hB⟩
theorem cD.lt {w:World}{B:Nat}{u v:Value}{z:Int} (h:cD w B (.agg #[u,v]) z):∀g,v.ownBlock=some g->B<=g∧g<w.heap.size:=by
 obtain ⟨p,cap,h1,h2⟩:=h
 simp only [Value.agg.injEq,Array.mk.injEq,List.cons.injEq,and_true] at h1
 rw [h1.2]
 exact h2.lt
theorem Kw (k c:Nat) (h:k / 2 ^ c % 2=0):k / 2 ^ c=2*(k / 2 ^ (c+1)):=by
 rw [Nat.pow_succ,<- Nat.div_div_eq_div_mul];omega
theorem x7 (k c:Nat) (h:¬k / 2 ^ c % 2=0):k / 2 ^ c=2*(k / 2 ^ (c+1))+1:=by
 rw [Nat.pow_succ,<- Nat.div_div_eq_div_mul];omega
theorem Kx (k c:Nat) (hk:k<=256):bits .and .i64 ((k:Int) / 2 ^ c) 1=((k / 2 ^ c % 2:Nat):Int):=by
 have h:=Nat.div_le_self k (2 ^ c)
 have:=Kt ⟨k / 2 ^ c,by omega⟩
 rw [sy]
 exact this
theorem aj.bd {w:World}{v:Value}{z:Int}{k:Nat} (h:aj w v z k):Bd z.natAbs k:=by
 obtain ⟨b,s,X,rfl,h2,rfl⟩:=h
 rw [cC]
 exact h2.bd
set_option maxHeartbeats 4000000 in
theorem IN {v:Value}{a:Int}{i:Nat}{w:World} (n:Int) (k:Nat) (hn:(n<0∧k=0)∨(n=k∧k<=256)∨(256<n∧k=256)) (hx:aj w v a i) (hi:i<=1000) :
  Calls Tryz.prog 83 #[v,.int .i64 n] w (cZ w (a ^ k) (i*256+1)):=by
 have Ba:=Lib.hid hx.bd
 have Vx:=Lib.hid hx
 obtain ⟨b,s,X,rfl,hx,ea⟩:=hx
 obtain ⟨p0,n0,c0,rfl⟩:=hx.slice
 clear ea hx
 have hk:k<=256:=by omega
 have m3:(0:Int)<=(k:Int):=by omega
 have m4:(k:Int)<=256:=by omega
 have kw:IntKind.u64.wrap (k:Int)=k:=by rw [IntKind.wrap_u64];omega
 have S:Bx w [(w.heap.size+1,.bool false,.slice none 0 0),(w.heap.size,.bool b,.slice p0 n0 c0)] ((w.alloc (.cells #[.bool b,.slice p0 n0 c0] 51)).alloc (.cells #[.bool false,.slice none 0 0] 51)):=((Bx.start w).box _ _ _ _ rfl).box _ _ _ _ (by simp)
 go_enter Tryz.func83,Tryz.ntmps83
 go_upto_region 1 with fail
 go_cut [1] (fun nv wx=>nv = .int .i64 (k:Int)∧wx=((w.alloc (.cells #[.bool b,.slice p0 n0 c0] 51)).alloc (.cells #[.bool false,.slice none 0 0] 51)))
 case first=>
  rcases hn with ⟨n1,rfl⟩ | ⟨rfl,n1⟩ | ⟨n1,rfl⟩
  ·have n2:¬(256:Int)<0:=by omega
   go_wp2_with fail
   go_meet
   exact ⟨rfl,rfl⟩
  ·have m1:¬(k:Int)<0:=by omega
   have m2:¬(256:Int)<(k:Int):=by omega
   go_wp2_with fail
   go_meet
   exact ⟨rfl,rfl⟩
  ·have m1:¬n<0:=by omega
   go_wp2_with fail
   go_meet
   exact ⟨rfl,rfl⟩
 case rest=>
 obtain ⟨rfl,rfl⟩:=hcut
 clear hn
 go_wp2_with fail
 refine (vu 1 _ (by omega) (by omega)).mono ?_
 rintro e w1 ⟨v1,rfl,h1,-,g1⟩
 obtain ⟨z1,hz1⟩:∃z:Int,1=z:=⟨_,rfl⟩
 rw [hz1] at h1
 obtain ⟨p1,c1,rfl,h1'⟩:=id h1
 have Nb:=Lib.hid (show (Value.slice p1 (af 4294967296 (z1).natAbs).length c1).ownBlock≠some w1.heap.size from fun e=>by have:=(cD.lt h1 _ e).2;omega)
 have N1:=Lib.hid (show cD w1 (w.heap.size+1+1) _ z1 from cD.mono h1 (by simp))
 replace S:=S.step _ g1
 have y0:=S.lt (g:=w.heap.size+1) (x:=.bool false) (y:=.slice none 0 0) (by simp)
 have y1:=S.lt (g:=w.heap.size) (x:=.bool b) (y:=.slice p0 n0 c0) (by simp)
 replace S:=S.box w1.heap.size (.bool (decide (z1<0))) (.slice p1 (af 4294967296 (z1).natAbs).length c1) 51 rfl
 replace N1:=Lib.hid (N1.out.grown (aF w1 (.cells #[.bool (decide (z1<0)),.slice p1 (af 4294967296 (z1).natAbs).length c1] 51) none))
 clear h1 h1' g1
 go_wp2_with fail
 refine (Ks k _ (by omega)).mono ?_
 rintro e w' ⟨rfl,rfl⟩
 generalize w1.alloc (.cells #[.bool (decide (z1<0)),.slice p1 (af 4294967296 (z1).natAbs).length c1] 51)=w2 at *
 have HL:=Lib.hid (ot k (by omega))
 have Hz1:=Lib.hid hz1
 have HLb:Lib.bitLen k<=64:=Lib.bitLen_le k 64 (by omega) (by omega)
 generalize Lib.bitLen k=L at *
 clear hz1
 have y2:w.heap.size+1+1<=w1.heap.size:=by omega
 go_wp2_with fail
 go_loopw [6] (fun iv wr=>∃(c:Nat) (q z:Int) (p:Option Addr) (cap:Nat),c<=L∧iv = .int .i64 q∧q=(c:Int)-1∧Hid (z=a ^ (k / 2 ^ c)) ∧
  Hid (Bx w [(w1.heap.size,.bool (decide (z<0)),.slice p (af 4294967296 (z).natAbs).length cap),(w.heap.size+1,.bool false,.slice none 0 0),(w.heap.size,.bool b,.slice p0 n0 c0)] wr) ∧
  Hid (cD wr (w.heap.size+1+1) (.agg #[.bool (decide (z<0)),.slice p (af 4294967296 (z).natAbs).length cap]) z)∧Hid ((Value.slice p (af 4294967296 (z).natAbs).length cap).ownBlock≠some w1.heap.size)) (fun iv _=>(intOf iv+1).toNat)
 case atStart=>
  refine ⟨L,_,z1,p1,c1,Nat.le_refl _,by go_num,by omega,?_,S,N1.out,Nb.out⟩
  show z1=_
  rw [Nat.div_eq_of_lt HL.out,<- Hz1.out,Int.pow_zero]
 case round=>
  obtain ⟨c,q,z,p,cap,hc,rfl,hq,Z,S1,O1,B1⟩:=hrel
  have hS:=S1.out
  have Nz:=Lib.hid (show aj wr (.agg #[.bool (decide (z<0)),.slice p (af 4294967296 (z).natAbs).length cap]) z (i*256+1) from by
   exact c6.x5 O1.out.nor Z.out Ba.out (Nat.add_le_add_right (Nat.mul_le_mul_left i (Nat.le_trans (Nat.div_le_self _ _) (by omega))) 1))
  cases c with
  | zero=>
   obtain rfl:q = -1:=by omega
   have Bz:=Lib.hid Nz.out.bd
   have Ze:=Lib.hid (show z=a ^ k from by rw [Z.out];simp)
   have S2:=hS.put (g:=w.heap.size+1) (u:=.bool (decide (z<0))) (v:=.slice p (af 4294967296 (z).natAbs).length cap) (x:=.bool false) (y:=.slice none 0 0) (bs':=[(w.heap.size,.bool b,.slice p0 n0 c0)]) (by simp) (by simp) (by simp) (by omega)
   have O2:=rk (g:=w.heap.size+1) (x:=.bool (decide (z<0))) (y:=.slice p (af 4294967296 (z).natAbs).length cap) O1.out (fun e=>by have:=(O1.out.lt _ e).1;omega)
   obtain ⟨e0,e1,e2,e3,e4,e5,e6,e7,e8,e9,e10,e11,G⟩:=id hS
   clear hS hq
   go_wp2_with fail
   refine mO Tryz.results83 rfl rfl S2.1 S2.2.1 ⟨_,rfl,?_,?_,S2.all⟩
   ·rw [<- Ze.out];exact O2.mono (by omega)
   ·rw [<- Ze.out];exact Bz.out
  | succ c=>
   obtain rfl:q=(c:Int):=by omega
   have hc0:(0:Int)<=(c:Int):=by omega
   have K2:i*256+1+(i*256+1)<=1000000:=by omega
   obtain ⟨e0,e1,e2,e3,e4,e5,e6,e7,e8,e9,e10,e11,G⟩:=id hS
   clear hS hq S
   go_wp2_with fail
   with_reducible refine (pW Nz.out Nz.out K2).mono ?_
   rintro e w3 ⟨v3,rfl,ho,-,g3⟩
   obtain ⟨z2,hz2⟩:∃z2,z*z=z2:=⟨_,rfl⟩
   rw [hz2] at ho
   have Z2:=Lib.hid (show z2=a ^ (2*(k / 2 ^ (c+1))) by rw [<- hz2,Z.out,Kv])
   obtain ⟨p2,c2,rfl,h2'⟩:=id ho
   have S3:=S1.out.step _ g3
   have u0:=S1.out.lt (g:=w1.heap.size) (x:=.bool (decide (z<0))) (y:=.slice p (af 4294967296 (z).natAbs).length cap) (by simp)
   have rm:(Value.slice p2 (af 4294967296 (z2).natAbs).length c2).ownBlock≠some w1.heap.size:=fun e=>by have:=(ho.lt _ e).1;omega
   have O2:=(rk (g:=w1.heap.size) (x:=.bool (decide (z2<0))) (y:=.slice p2 (af 4294967296 (z2).natAbs).length c2) ho rm).mono (show w.heap.size+1+1<=_ by omega)
   have S4:=S3.put (g:=w1.heap.size) (u:=.bool (decide (z2<0))) (v:=.slice p2 (af 4294967296 (z2).natAbs).length c2) (x:=.bool (decide (z<0))) (y:=.slice p (af 4294967296 (z).natAbs).length cap) (bs':=[(w.heap.size+1,.bool false,.slice none 0 0),(w.heap.size,.bool b,.slice p0 n0 c0)]) (by simp) (by simp) (by simp <;> omega) (by omega)
   have N2:=Lib.hid rm
   have lc:=Lib.hid (show Bx w [(w1.heap.size,.bool (decide (z2<0)),.slice p2 (af 4294967296 (z2).natAbs).length c2),(w.heap.size+1,.bool false,.slice none 0 0),(w.heap.size,.bool b,.slice p0 n0 c0)] ((w3.setCell ⟨w1.heap.size,0,none⟩ (.bool (decide (z2<0)))).setCell ⟨w1.heap.size,1,none⟩ (.slice p2 (af 4294967296 (z2).natAbs).length c2)) from S4)
   have rn:=Lib.hid (show cD ((w3.setCell ⟨w1.heap.size,0,none⟩ (.bool (decide (z2<0)))).setCell ⟨w1.heap.size,1,none⟩ (.slice p2 (af 4294967296 (z2).natAbs).length c2)) _ _ z2 from O2)
   clear e0 e1 e2 e3 e4 e5 e6 e7 e8 e9 e10 e11 G h2' hz2 rm S4 O2 ho Nz Z S1 O1 B1
   obtain ⟨e0,e1,e2,e3,e4,e5,e6,e7,e8,e9,e10,e11,G⟩:=id S3
   have Tb:=Kx k c (by omega)
   by_cases hb:k / 2 ^ c % 2=0
   ·have hd:(bits BinOp.and IntKind.i64 (((k:Nat):Int) / 2 ^ c) 1 == 1)=false:=by rw [Tb,hb];rfl
    have Zn:=Lib.hid (show z2=a ^ (k / 2 ^ c) by rw [Z2.out,Kw _ _ hb])
    clear Tb hb
    go_wp2_with fail
    go_roundw
    case rel=>exact ⟨c,_,z2,p2,c2,by omega,rfl,rfl,Zn.out,lc.out,rn.out,N2.out⟩
    case measure=>simp [intOf] <;> omega
   ·have hd:(bits BinOp.and IntKind.i64 (((k:Nat):Int) / 2 ^ c) 1 == 1)=true:=by rw [Tb,show k / 2 ^ c % 2=1 by omega];rfl
    have Zn:=Lib.hid (show z2*a=a ^ (k / 2 ^ c) by rw [Z2.out,x7 _ _ hb,Int.pow_succ])
    have Nz:=Lib.hid (show aj _ (.agg #[.bool (decide (z2<0)),.slice p2 (af 4294967296 (z2).natAbs).length c2]) z2 (i*256+1) from by
     exact c6.x5 rn.out.nor Z2.out Ba.out (Nat.add_le_add_right (Nat.mul_le_mul_left i (by have:=x7 _ _ hb;have:=Nat.div_le_self k (2 ^ c);omega)) 1))
    clear Tb hb Z2
    go_wp2_with fail
    generalize (w3.setCell ⟨w1.heap.size,0,none⟩ (.bool (decide (z2<0)))).setCell ⟨w1.heap.size,1,none⟩ (.slice p2 (af 4294967296 (z2).natAbs).length c2)=w4 at *
    with_reducible refine (pW Nz.out (Vx.out.grown lc.out.all) (by omega)).mono ?_
    rintro e w5 ⟨v3,rfl,ho,-,g5⟩
    obtain ⟨z3,hz3⟩:∃z3,z2*a=z3:=⟨_,rfl⟩
    rw [hz3] at ho Zn
    obtain ⟨p3,c3,rfl,h3'⟩:=id ho
    have S5:=lc.out.step _ g5
    have u1:=lc.out.lt (g:=w1.heap.size) (x:=.bool (decide (z2<0))) (y:=.slice p2 (af 4294967296 (z2).natAbs).length c2) (by simp)
    have ro:(Value.slice p3 (af 4294967296 (z3).natAbs).length c3).ownBlock≠some w1.heap.size:=fun e=>by have:=(ho.lt _ e).1;omega
    have O3:=(rk (g:=w1.heap.size) (x:=.bool (decide (z3<0))) (y:=.slice p3 (af 4294967296 (z3).natAbs).length c3) ho ro).mono (show w.heap.size+1+1<=_ by omega)
    have S6:=S5.put (g:=w1.heap.size) (u:=.bool (decide (z3<0))) (v:=.slice p3 (af 4294967296 (z3).natAbs).length c3) (x:=.bool (decide (z2<0))) (y:=.slice p2 (af 4294967296 (z2).natAbs).length c2) (bs':=[(w.heap.size+1,.bool false,.slice none 0 0),(w.heap.size,.bool b,.slice p0 n0 c0)]) (by simp) (by simp) (by simp <;> omega) (by omega)
    have N3:=Lib.hid ro
    have HS6:=Lib.hid S6
    have HO3:=Lib.hid O3
    clear e0 e1 e2 e3 e4 e5 e6 e7 e8 e9 e10 e11 G h3' hz3 ro S6 O3 ho Nz lc rn
    obtain ⟨e0,e1,e2,e3,e4,e5,e6,e7,e8,e9,e10,e11,G⟩:=id S5
    go_wp2_with fail
    go_roundw
    case rel=>exact ⟨c,_,z3,p3,c3,by omega,rfl,rfl,Zn.out,HS6.out,HO3.out,N3.out⟩
    case measure=>simp [intOf] <;> omega
end Go.Proofs.YthmcngjhkmpneaaGreat
