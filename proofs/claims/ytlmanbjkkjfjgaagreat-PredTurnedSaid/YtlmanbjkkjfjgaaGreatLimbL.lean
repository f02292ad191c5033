/- The guess of a quotient' -/
import GoSem.Claim
import Derived.Test.YtlmanbjkkjfjgaaGreatLimbA
import Derived.Deep.DeepCutAuto
namespace Go.Proofs.YtlmanbjkkjfjgaaGreat
open Go.Proofs.Tryz
open Lib (hid)
open Go.RowKit
variable {A B D E X b1 b2 bl pj g gb gq gr i j k la n p0 p1 p2 pl q rest s top:Nat}{L Q R Z a b jM xs ys:List Nat}{w w' wr:World}{v:Value}
theorem VV  (hpl:pl<E) (inv:q*b1+rest=p0*B+p1) (t:rest*B+p2<q*b2) :
  ((p0*B+p1)*B+p2)*E+pl<q*((b1*B+b2)*E+bl):=by
 have h1:(q*b1)*(B*E)+rest*(B*E)=(p0*B+p1)*(B*E):=by rw [<- Nat.add_mul,inv]
 have h2:(rest*B+p2+1)*E<=(q*b2)*E:=Nat.mul_le_mul_right E t;grind
theorem VW  (hbl:bl<E) (hb1:0<b1) (hq:q<B) (inv:q*b1+rest=p0*B+p1) (t:q*b2<=rest*B+p2) :
  q*((b1*B+b2)*E+bl)<=((p0*B+p1)*B+p2)*E+pl+((b1*B+b2)*E+bl):=by
 have h1:(q*b1)*(B*E)+rest*(B*E)=(p0*B+p1)*(B*E):=by rw [<- Nat.add_mul,inv]
 have h2:(q*b2)*E<=(rest*B+p2)*E:=Nat.mul_le_mul_right E t;have h3:q*bl<=B*E:=Nat.mul_le_mul (Nat.le_of_lt hq) (Nat.le_of_lt hbl);have h4:1*(B*E)<=b1*(B*E):=Nat.mul_le_mul_right _ hb1;clear hbl hb1 hq inv t;grind
theorem VX  (hbl:bl<E) (hb2:b2<B) (hq:q<=B) (hr:B<=rest) (inv:q*b1+rest=p0*B+p1) :
  q*((b1*B+b2)*E+bl)<=((p0*B+p1)*B+p2)*E+pl:=by
 have h1:(q*b1)*(B*E)+rest*(B*E)=(p0*B+p1)*(B*E):=by rw [<- Nat.add_mul,inv]
 have h2:B*(B*E)<=rest*(B*E):=Nat.mul_le_mul_right _ hr;have h3:b2*E+bl<=B*E:=by have:=Nat.mul_le_mul_right E (show b2+1<=B from hb2);rw [Nat.add_mul] at this;omega
 have h4:q*(b2*E+bl)<=B*(B*E):=Nat.mul_le_mul hq h3;clear hbl hb2 hq hr inv h3;grind
theorem VY {Q:Nat} (hpl:pl<E) (hp2:p2<B) (h:Q*((b1*B+b2)*E+bl)<=((p0*B+p1)*B+p2)*E+pl) (hb1:0<b1) :
  Q<=(p0*B+p1) / b1:=by
 rw [Nat.le_div_iff_mul_le hb1];have h1:p2*E+pl<B*E:=by have:=Nat.mul_le_mul_right E (show p2+1<=B from hp2);rw [Nat.add_mul] at this;omega
 have h2:(Q*b1)*(B*E)<(p0*B+p1+1)*(B*E):=by clear hpl hp2 hb1;grind
 have h3:=Nat.lt_of_mul_lt_mul_right h2;omega
theorem VZ  (hbl:bl<E) (hb2:b2<B) (h:((p0*B+p1)*B+p2)*E+pl<((b1*B+b2)*E+bl)*B):p0<=b1:=by
 have h3:b2*E+bl<B*E:=by have:=Nat.mul_le_mul_right E (show b2+1<=B from hb2);rw [Nat.add_mul] at this;omega
 have h5:(b2*E+bl)*B<=(B*E)*B:=Nat.mul_le_mul_right B (Nat.le_of_lt h3);have h4:p0*(B*(B*E))<(b1+1)*(B*(B*E)):=by clear hbl hb2 h3;grind
 have:=Nat.lt_of_mul_lt_mul_right h4;omega
theorem Wa  (h0:p0<=b1) (h1:p1<B) (h2:B<=2*b1) (hb:0<b1):(p0*B+p1) / b1<=B+1:=by
 have h3:p0*B<=b1*B:=Nat.mul_le_mul_right B h0;have h4:(p0*B+p1) / b1<B+2:=by rw [Nat.div_lt_iff_lt_mul hb,Nat.add_mul,Nat.mul_comm B b1];omega
 omega
structure iw (B E b1 b2 bl p0 p1 p2 pl P D:Nat):Prop where
 hbl:bl<E
 hpl:pl<E
 hb1:0<b1
 Wb:b1<B
 hb2:b2<B
 hp0:p0<B
 hp1:p1<B
 hp2:p2<B
 hbig:B<=2*b1
 hd:D=(b1*B+b2)*E+bl
 hp:P=((p0*B+p1)*B+p2)*E+pl
 hlt:P<D*B
section
variable {P:Nat}
theorem iw.tT (h:iw B E b1 b2 bl p0 p1 p2 pl P D):0<D:=by
 rcases Nat.eq_zero_or_pos D with h0 | h0
 ·have:=h.hlt;rw [h0] at this;omega
 ·exact h0
theorem iw.FY (h:iw B E b1 b2 bl p0 p1 p2 pl P D):P / D<B:=by rw [Nat.div_lt_iff_lt_mul h.tT,Nat.mul_comm];exact h.hlt
theorem iw.start (h:iw B E b1 b2 bl p0 p1 p2 pl P D):P / D<=(p0*B+p1) / b1∧(p0*B+p1) / b1<=B+1:=by
 constructor
 ·refine VY h.hpl h.hp2 (b2:=b2) (bl:=bl) (E:=E) (pl:=pl) ?_ h.hb1;have:=Nat.div_mul_le_self P D;have hd:=h.hd;have hp:=h.hp;rw [<- hd,<- hp];exact this
 ·have hd:=h.hd;have hp:=h.hp;have hl:=h.hlt;rw [hd,hp] at hl;exact Wa (VZ h.hbl h.hb2 hl) h.hp1 h.hbig h.hb1
theorem iw.less (h:iw B E b1 b2 bl p0 p1 p2 pl P D) (inv:q*b1+rest=p0*B+p1) (t:B<=q∨rest*B+p2<q*b2):P / D+1<=q:=by
 rcases t with t | t
 ·have:=h.FY;omega
 ·have k:=VV (bl:=bl) h.hpl inv t;rw [<- h.hd,<- h.hp] at k;exact (Nat.div_lt_iff_lt_mul h.tT).2 k
theorem iw.done (h:iw B E b1 b2 bl p0 p1 p2 pl P D) (inv:q*b1+rest=p0*B+p1) (hq:q<B) (t:q*b2<=rest*B+p2):q<=P / D+1:=by
 have k:=VW (p2:=p2) (pl:=pl) h.hbl h.hb1 hq inv t;rw [<- h.hd,<- h.hp] at k;cases q with
 | zero=>exact Nat.zero_le _
 | succ q=>
  have:q<=P / D:=by rw [Nat.le_div_iff_mul_le h.tT];rw [Nat.add_mul,Nat.one_mul] at k;omega
  omega
theorem iw.grown (h:iw B E b1 b2 bl p0 p1 p2 pl P D) (inv:q*b1+rest=p0*B+p1) (hq:q<=B) (hr:B<=rest):q<=P / D:=by have k:=VX (p2:=p2) (pl:=pl) h.hbl h.hb2 hq hr inv;rw [<- h.hd,<- h.hp] at k;rw [Nat.le_div_iff_mul_le h.tT];exact k
end
def FZ (w:World) (P D:Nat) (en:Ending) (w':World):Prop:=
 ∃q:Nat,en = .returned (.int .u32 q)∧P / D<=q∧q<=P / D+1∧q<4294967296∧∃n,w'=w.drewN n
set_option maxHeartbeats 2000000 in
theorem Wc (pb po tU bb bo pj m b1 b2 p0 p1 p2 bl pl E P D:Nat) (w:World) (hm:m<=8796093022208)
  (h1:w.cell? ⟨pb,po+(m+2),none⟩=some (.int .u32 p0)) (h2:w.cell? ⟨pb,po+(m+1),none⟩=some (.int .u32 p1)) (h3:w.cell? ⟨pb,po+m,none⟩=some (.int .u32 p2))
  (h4:w.cell? ⟨bb,bo+(m+1),none⟩=some (.int .u32 b1)) (h5:w.cell? ⟨bb,bo+m,none⟩=some (.int .u32 b2))
  (T:iw 4294967296 E b1 b2 bl p0 p1 p2 pl P D) :
  Calls prog 181 #[.slice (some ⟨pb,po,none⟩) (m+3) tU,.slice (some ⟨bb,bo,none⟩) (m+2) pj] w (FZ w P D):=by
 have l0:=T.hp0;have l1:=T.hp1;have l2:=T.hp2;have l3:=T.Wb;have l4:=T.hb2;have l5:=T.hb1;have TT:=hid T;clear T;have so:=rZ p0 p1 l0 l1;have i1:(m:Int)+2<(m:Int)+3:=by omega
 have i2:(m:Int)+1<(m:Int)+3:=by omega
 have i3:(m:Int)+1<(m:Int)+2:=by omega
 have i4:(0:Int)<=(m:Int)+1:=by omega
 have i5:(m:Int)<(m:Int)+2:=by omega
 have i6:(m:Int)<(m:Int)+3:=by omega
 go_enter func181,ntmps181
 go_wp2_with fail
 go_quiet (fail)
 go_wp2_with fail
 go_quiet (fail)
 go_wp2_with fail
 have ed:((p0:Int)*4294967296+(p1:Int)) / (b1:Int)=(((p0*4294967296+p1) / b1:Nat):Int):=by rw [show ((p0:Int)*4294967296+p1)=((p0*4294967296+p1:Nat):Int) by omega,<- Int.natCast_ediv]
 have em:((p0:Int)*4294967296+(p1:Int)) % (b1:Int)=(((p0*4294967296+p1) % b1:Nat):Int):=by rw [show ((p0:Int)*4294967296+p1)=((p0*4294967296+p1:Nat):Int) by omega,<- Int.natCast_emod]
 have hdm:=Nat.div_add_mod (p0*4294967296+p1) b1;have hml:=Nat.mod_lt (p0*4294967296+p1) l5;have hst:=TT.out.start;rw [ed,em];clear ed em so;generalize (p0*4294967296+p1) / b1=q0 at *
 generalize (p0*4294967296+p1) % b1=r0 at *
 have Hdm:=hid hdm;have Hst:=hid hst;clear hdm hst;go_loopw [7,8] (λqv rv wr=>∃q rest n:Nat,qv = .int .u64 q∧rv = .int .u64 rest∧wr=w.drewN n∧Hid (q*b1+rest=p0*4294967296+p1)∧Hid (P / D<=q)∧q<=4294967297∧Hid (4294967296<=rest->q<=4294967296)∧rest<8589934592) (λ_ rv _=>8589934592-(intOf rv).toNat)
 case atStart=>
  refine ⟨q0,r0,_,rfl,rfl,by rw [World.drewN_drewN],?_,Hst.out.1,Hst.out.2,?_,by omega⟩
  ·have:=Hdm.out;show q0*b1+r0=_;rw [Nat.mul_comm];exact this
  ·intro h;omega
 case round=>
  obtain ⟨q,rest,dn,rfl,rfl,rfl,inv,lo,hi,cap,rl⟩:=hrel;clear Hdm Hst;by_cases hA:4294967296<=rest
  ·have t1:((rest:Int) / 4294967296 == 0)=false:=by rw [beq_eq_false_iff_ne];omega
   have hle:=hid (TT.out.grown inv.out (cap.out hA) hA);have hlt:=TT.out.FY;have hq:q<4294967296:=Nat.lt_of_le_of_lt hle.out hlt;clear hlt;go_wp2_with fail
   go_quiet (fail)
   go_wp2_with fail
   go_ret
   exact ⟨q,gT (by omega),lo.out,Nat.le_trans hle.out (Nat.le_succ _),hq,_,rfl⟩
  ·have t1:((rest:Int) / 4294967296 == 0)=true:=by rw [beq_iff_eq];omega
   by_cases hB:4294967296<=q
   ·have t2:((q:Int) / 4294967296 != 0)=true:=by rw [bne_iff_ne];omega
    have hl:=hid (TT.out.less (p2:=p2) inv.out (.inl hB));have hq1:1<=q:=by omega
    go_wp2_with fail
    go_quiet (fail)
    go_wp2_with fail
    go_roundw
    case rel=>
     refine ⟨q-1,rest+b1,_,int_eq (by omega),int_eq (by omega),rfl,?_,?_,by omega,?_,by omega⟩
     ·have:=inv.out;obtain ⟨q',rfl⟩:∃q',q=q'+1:=⟨q-1,by omega⟩;show (q'+1-1)*b1+(rest+b1)=_;rw [Nat.add_mul,Nat.one_mul] at this;rw [Nat.add_sub_cancel];omega
     ·exact Nat.le_sub_of_add_le hl.out
     ·intro _;omega
    case measure=>simp [intOf];omega
   ·have t2:((q:Int) / 4294967296 != 0)=false:=by rw [bne_eq_false_iff_eq];omega
    have m1:=vu (show q<4294967296 by omega) l4;have m2:=vw q b2;have so:=rZ rest p2 (by omega) l2;by_cases hC:rest*4294967296+p2<q*b2
    ·have t3:decide ((rest:Int)*4294967296+(p2:Int)<(q:Int)*(b2:Int))=true:=by
      rw [decide_eq_true_iff,<- Int.natCast_mul];omega
     have hl:=hid (TT.out.less inv.out (.inr hC));have hq1:1<=q:=Nat.pos_of_ne_zero (λh=>by subst h;simp at hC);go_wp2_with fail
     go_quiet (fail)
     go_wp2_with fail
     go_roundw
     case rel=>
      refine ⟨q-1,rest+b1,_,int_eq (by omega),int_eq (by omega),rfl,?_,?_,by omega,?_,by omega⟩
      ·have:=inv.out;obtain ⟨q',rfl⟩:∃q',q=q'+1:=⟨q-1,by omega⟩;show (q'+1-1)*b1+(rest+b1)=_;rw [Nat.add_mul,Nat.one_mul] at this;rw [Nat.add_sub_cancel];omega
      ·exact Nat.le_sub_of_add_le hl.out
      ·intro _;omega
     case measure=>simp [intOf];omega
    ·have t3:decide ((rest:Int)*4294967296+(p2:Int)<(q:Int)*(b2:Int))=false:=by
      rw [decide_eq_false_iff_not,<- Int.natCast_mul];omega
     go_wp2_with fail
     go_quiet (fail)
     go_wp2_with fail
     go_ret
     refine ⟨q,gT (by omega),lo.out,TT.out.done inv.out (by omega) (by omega),by omega,_,rfl⟩
def Wd (w:World) (g N off n:Nat) (c:Nat->Value) (ps ys:List Nat) (x:Nat) (en:Ending) (w':World):Prop:=
 ∃(Z:List Nat) (short:Bool),Z.length=n+1∧All 4294967296 Z∧en = .returned (.bool short)∧aN w' 106 g N (lay c off (n+1) .u32 Z)∧w.grownBy w' (some g)∧w'.heap.size=w.heap.size ∧
  val 4294967296 Z+x*val 4294967296 ys=val 4294967296 ps+(if short then 4294967296 ^ (n+1) else 0)
set_option maxHeartbeats 2000000 in
theorem We (g off N cap n x:Nat) (vy:Value) (c:Nat->Value) (ps ys:List Nat) (w:World) (hr:aN w 106 g N c) (hN:off+n+1<=N) (hx:x<4294967296)
  (hc:∀j,j<n+1->c (off+j) = .int .u32 (nth ps j)) (hps:ps.length=n+1) (ap:All 4294967296 ps)
  (hy:Sl w .u32 vy ys) (hne:ys ≠ []->vy.ownBlock≠some g) (hm:ys.length=n) (ay:All 4294967296 ys) :
  Calls prog 182 #[.slice (some ⟨g,off,none⟩) (n+1) cap,vy,.int .u32 x] w (Wd w g N off n c ps ys x):=by
 obtain ⟨p,dw,rfl,h1,h2,h3⟩:=hy;have fS:=cm (by omega) ay;have nt:=cm (by omega) ap;have kO:∀k,ej 4294967296 (nth ps) (nth ys) x k<4294967296:=Wf hx fS;obtain ⟨Z,hZ⟩:∃Z,pre (nw 4294967296 (nth ps) (nth ys) x) n=Z:=⟨_,rfl⟩;have hZn:∀j,j<n->nth Z j=nw 4294967296 (nth ps) (nth ys) x j:=λj hj=>by rw [<- hZ];exact fR _ (by omega)
 have hZl:Z.length=n:=by rw [<- hZ,dW]
 have aZ:All 4294967296 Z:=by rw [<- hZ];exact gJ λj _=>Wg nt j
 have hv:val 4294967296 Z+x*val 4294967296 ys=val 4294967296 (ps.take n)+4294967296 ^ n*ej 4294967296 (nth ps) (nth ys) x n:=by have e:=Wh (b:=4294967296) (nth ps) (nth ys) x n;rw [hZ,fi _ ys (by omega),xn ps (by omega)] at e;exact e
 have hv2:val 4294967296 ps=val 4294967296 (ps.take n)+4294967296 ^ n*nth ps n:=by
  have e:=jX 4294967296 ps (k:=n)
  rwa [<- hps,List.take_length] at e
 rw [hm] at h1 ⊢;have Hm:=hid hm;have HZn:=hid hZn;have HZl:=hid hZl;have AZ:=hid aZ;have Hv:=hid hv;have Hv2:=hid hv2;have H3:=hid h3;have qV:=hid kO;have Hne:=hid hne;have Hc:=hid hc;have ju:=hid fS;have xU:=hid nt;clear hm hZ hZn hZl aZ hv hv2 h3 kO hne hc fS ay ap nt hps;go_enter func182,ntmps182
 go_wp2_with fail
 go_loopw [7,15] (λcv i wr=>∃k:Nat,k<=n∧i = .int .i64 k∧cv = .int .u64 (ej 4294967296 (nth ps) (nth ys) x k)∧aN wr 106 g N (lay c off k .u32 Z)∧w.grownBy wr (some g)∧wr.heap.size=w.heap.size) (λ_ i _=>(n-(intOf i).toNat))
 case atStart=>exact ⟨0,by omega,rfl,rfl,by rw [jC];exact hr,bH _ _,rfl⟩
 case round=>
  obtain ⟨k,hk,rfl,rfl,rr,gr,sr⟩:=hrel;have Sr:=hid sr;clear sr;have hcl:=qV.out k;have f1:wr.frozen? ⟨g,off+k,none⟩=false:=rr.frozen _;have c1:wr.cell? ⟨g,off+k,none⟩=some (.int .u32 (nth ps k)):=by rw [rr.cell (by omega),eG _ _ _,Hc.out k (by omega)]
  have b3:nth ps k<4294967296:=xU.out k;by_cases hlt:k<n
  ·rcases H3.out with h3 | ⟨b,ic,rfl,hbl,hy⟩
   ·have:=Hm.out;rw [h3] at this;simp at this;omega
   have c2:wr.cell? ⟨b,ic+k,none⟩=some (.int .u32 (nth ys k)):=by rw [World.cell?_of_block (w:=w) (gr.block b hbl (by simpa [Value.ownBlock] using Hne.out (λh=>by have:=Hm.out;rw [h] at this;simp at this;omega))),hy k (by rw [Hm.out];omega)]
   clear hy;have b2:nth ys k<4294967296:=ju.out k;have i1:(k:Int)<(n:Int):=by omega
   have i2:(k:Int)<(n:Int)+1:=by omega
   have m1:=vu hx b2;have m2:=vw x (nth ys k);have HC:=hid (show ej 4294967296 (nth ps) (nth ys) x (k+1)=(ej 4294967296 (nth ps) (nth ys) x k+x*nth ys k) / 4294967296+if nth ps k<(ej 4294967296 (nth ps) (nth ys) x k+x*nth ys k) % 4294967296 then 1 else 0 from rfl);have HD:=hid (show nth Z k=if nth ps k<(ej 4294967296 (nth ps) (nth ys) x k+x*nth ys k) % 4294967296 then nth ps k+4294967296-(ej 4294967296 (nth ps) (nth ys) x k+x*nth ys k) % 4294967296 else nth ps k-(ej 4294967296 (nth ps) (nth ys) x k+x*nth ys k) % 4294967296 from HZn.out k (by omega));generalize ej 4294967296 (nth ps) (nth ys) x k=cr at *
   obtain ⟨t,ht⟩:∃t:Nat,(cr:Int)+(x:Int)*(nth ys k:Int)=(t:Int):=⟨cr+x*nth ys k,by push_cast;rfl⟩;have ht':cr+x*nth ys k=t:=by rw [<- Int.natCast_mul] at ht;omega
   rw [ht'] at HC HD;have htb:t<=18446744069414584320:=by have:=vt hx b2;omega
   have HT:=hid ht';clear ht';by_cases hlo:nth ps k<t % 4294967296
   ·have t1:decide ((nth ps k:Int)<(t:Int) % 4294967296)=true:=by rw [decide_eq_true_iff];omega
    have i3:(nth ps k:Int)<(t:Int) % 4294967296:=by omega
    go_wp2
    go_roundw
    case rel=>
     refine ⟨k+1,by omega,by go_num,int_eq (by rw [HC.out,if_pos hlo];omega),lZ rr (int_eq (by rw [HD.out,if_pos hlo];omega)),bf gr (cI _ _ _ _),by simpa using Sr.out⟩
    case measure=>simp [intOf];omega
   ·have t1:decide ((nth ps k:Int)<(t:Int) % 4294967296)=false:=by rw [decide_eq_false_iff_not];omega
    have i3:(t:Int) % 4294967296<=(nth ps k:Int):=by omega
    go_wp2
    go_roundw
    case rel=>
     refine ⟨k+1,by omega,by go_num,int_eq (by rw [HC.out,if_neg hlo];omega),lZ rr (int_eq (by rw [HD.out,if_neg hlo];omega)),bf gr (cI _ _ _ _),by simpa using Sr.out⟩
    case measure=>simp [intOf];omega
  ·obtain rfl:k=n:=by omega
   have Hv':=Hv.out;generalize ej 4294967296 (nth ps) (nth ys) x k=cr at *
   have HV:=hid Hv';clear Hv' Hv;have i2:(k:Int)<(k:Int)+1:=by omega
   have fin:∀(d:Nat) (vv:Value),vv = .int .u32 d->d<4294967296->aN (wr.setCell ⟨g,off+k,none⟩ vv) 106 g N (lay c off (k+1) .u32 (Z ++ [d])):=by
    intro d vv hvv _;have e:lay c off k .u32 (Z ++ [d])=lay c off k .u32 Z:=by
     funext j;by_cases hj:off<=j∧j<off+k
     ·obtain ⟨i,rfl⟩:∃i,j=off+i:=⟨j-off,by omega⟩;rw [jc _ _ _,jc _ _ _,qY _ _ (by have:=HZl.out;omega)]
     ·rw [eG _ _ _,eG _ _ _]
    refine lZ (by rw [e];exact rr) ?_;rw [hvv];have:=Wi Z d;rw [HZl.out] at this;rw [this]
   have Fin:=hid fin;clear fin;by_cases hs:nth ps k<cr
   ·have t1:decide ((nth ps k:Int)<(cr:Int))=true:=by rw [decide_eq_true_iff];omega
    have i4:(nth ps k:Int)<(cr:Int):=by omega
    go_wp2
    go_ret
    refine ⟨Z ++ [nth ps k+4294967296-cr],true,by rw [List.length_append,HZl.out];rfl,AZ.out.app (All.cons (by omega) (All.nil _)),rfl,Fin.out _ _ (int_eq (by omega)) (by omega),bf gr (cI _ _ _ _),by simpa using Sr.out,?_⟩;rw [pg,HZl.out,if_pos rfl,Hv2.out,Nat.pow_succ];have e1:=HV.out;have e2:4294967296 ^ k*(nth ps k+4294967296-cr)+4294967296 ^ k*cr=4294967296 ^ k*nth ps k+4294967296 ^ k*4294967296:=by rw [<- Nat.mul_add,<- Nat.mul_add];congr 1;omega
    omega
   ·have t1:decide ((nth ps k:Int)<(cr:Int))=false:=by rw [decide_eq_false_iff_not];omega
    have i4:(cr:Int)<=(nth ps k:Int):=by omega
    go_wp2
    go_ret
    refine ⟨Z ++ [nth ps k-cr],false,by rw [List.length_append,HZl.out];rfl,AZ.out.app (All.cons (by omega) (All.nil _)),rfl,Fin.out _ _ (int_eq (by omega)) (by omega),bf gr (cI _ _ _ _),by simpa using Sr.out,?_⟩;rw [pg,HZl.out,Hv2.out];have e1:=HV.out;have e2:4294967296 ^ k*(nth ps k-cr)+4294967296 ^ k*cr=4294967296 ^ k*nth ps k:=by rw [<- Nat.mul_add];congr 1;omega
    simp only [Bool.false_eq_true,if_false];omega
def Wj (w:World) (g N off n:Nat) (c:Nat->Value) (ps ys:List Nat) (en:Ending) (w':World):Prop:=
 ∃(Z:List Nat) (cc:Nat),Z.length=n+1∧All 4294967296 Z∧en = .returned (.tuple #[])∧aN w' 106 g N (lay c off (n+1) .u32 Z)∧w.grownBy w' (some g)∧w'.heap.size=w.heap.size ∧
  val 4294967296 Z+4294967296 ^ (n+1)*cc=val 4294967296 ps+val 4294967296 ys
set_option maxHeartbeats 2000000 in
theorem Wk (g off N cap n:Nat) (vy:Value) (c:Nat->Value) (ps ys:List Nat) (w:World) (hr:aN w 106 g N c) (hN:off+n+1<=N)
  (hc:∀j,j<n+1->c (off+j) = .int .u32 (nth ps j)) (hps:ps.length=n+1) (ap:All 4294967296 ps)
  (hy:Sl w .u32 vy ys) (hne:ys ≠ []->vy.ownBlock≠some g) (hm:ys.length=n) (ay:All 4294967296 ys) :
  Calls prog 183 #[.slice (some ⟨g,off,none⟩) (n+1) cap,vy] w (Wj w g N off n c ps ys):=by
 obtain ⟨p,dw,rfl,h1,h2,h3⟩:=hy;have fS:=cm (by omega) ay;have nt:=cm (by omega) ap;have Ga:∀k,adR 4294967296 (nth ps) (nth ys) k<=1:=xH nt fS;obtain ⟨Z,hZ⟩:∃Z,pre (eK 4294967296 (nth ps) (nth ys)) (n+1)=Z:=⟨_,rfl⟩;have hZn:∀j,j<n+1->nth Z j=eK 4294967296 (nth ps) (nth ys) j:=λj hj=>by rw [<- hZ];exact fR _ (by omega)
 have fin:Z.length=n+1∧All 4294967296 Z∧val 4294967296 Z+4294967296 ^ (n+1)*adR 4294967296 (nth ps) (nth ys) (n+1)=val 4294967296 ps+val 4294967296 ys:=by refine ⟨by rw [<- hZ,dW],by rw [<- hZ];exact gJ λj _=>tN _ _ _,?_⟩;have e:=qO 4294967296 (nth ps) (nth ys) (n+1);rw [hZ,fi _ ys (by omega),fi _ ps (by omega)] at e;exact e
 rw [hm] at h1 ⊢;have Hm:=hid hm;have HZn:=hid hZn;have Fin:=hid fin;have H3:=hid h3;have Wm:=hid Ga;have Hne:=hid hne;have Hc:=hid hc;have ju:=hid fS;have xU:=hid nt;clear hm hZ hZn fin h3 Ga hne hc fS ay ap nt hps;go_enter func183,ntmps183
 go_wp2_with fail
 go_loopw [4,9] (λcv i wr=>∃k:Nat,k<=n∧i = .int .i64 k∧cv = .int .u64 (adR 4294967296 (nth ps) (nth ys) k)∧aN wr 106 g N (lay c off k .u32 Z)∧w.grownBy wr (some g)∧wr.heap.size=w.heap.size) (λ_ i _=>(n-(intOf i).toNat))
 case atStart=>exact ⟨0,by omega,rfl,rfl,by rw [jC];exact hr,bH _ _,rfl⟩
 case round=>
  obtain ⟨k,hk,rfl,rfl,rr,gr,sr⟩:=hrel;have Sr:=hid sr;clear sr;have hcl:=Wm.out k;have f1:wr.frozen? ⟨g,off+k,none⟩=false:=rr.frozen _;have c1:wr.cell? ⟨g,off+k,none⟩=some (.int .u32 (nth ps k)):=by rw [rr.cell (by omega),eG _ _ _,Hc.out k (by omega)]
  have b3:nth ps k<4294967296:=xU.out k;have HC:=hid (show adR 4294967296 (nth ps) (nth ys) (k+1)=(adR 4294967296 (nth ps) (nth ys) k+(nth ps k+nth ys k)) / 4294967296 from rfl);have HD:=hid (show nth Z k=(adR 4294967296 (nth ps) (nth ys) k+(nth ps k+nth ys k)) % 4294967296 from HZn.out k (by omega));generalize adR 4294967296 (nth ps) (nth ys) k=cr at *
  by_cases hlt:k<n
  ·rcases H3.out with h3 | ⟨b,ic,rfl,hbl,hy⟩
   ·have:=Hm.out;rw [h3] at this;simp at this;omega
   have c2:wr.cell? ⟨b,ic+k,none⟩=some (.int .u32 (nth ys k)):=by rw [World.cell?_of_block (w:=w) (gr.block b hbl (by simpa [Value.ownBlock] using Hne.out (λh=>by have:=Hm.out;rw [h] at this;simp at this;omega))),hy k (by rw [Hm.out];omega)]
   clear hy;have b2:nth ys k<4294967296:=ju.out k;have i1:(k:Int)<(n:Int):=by omega
   have i2:(k:Int)<(n:Int)+1:=by omega
   go_wp2
   go_roundw
   case rel=>
    refine ⟨k+1,by omega,by go_num,int_eq (by rw [HC.out];omega),lZ rr (int_eq (by rw [HD.out];omega)),bf gr (cI _ _ _ _),by simpa using Sr.out⟩
   case measure=>simp [intOf];omega
  ·obtain rfl:k=n:=by omega
   have y0:=hid (show nth ys k=0 from eV ys (h:=(by rw [Hm.out];omega)));have i2:(k:Int)<(k:Int)+1:=by omega
   go_wp2
   go_end0
   refine ⟨Z,_,Fin.out.1,Fin.out.2.1,rfl,lZ rr (int_eq ?_),bf gr (cI _ _ _ _),by simpa using Sr.out,Fin.out.2.2⟩;rw [HD.out,y0.out];omega
theorem Wn {pb po tU bb bo:Nat}{ps bs:List Nat} (hn:2<=n)
  (hp:ps.length=n+1) (hb:bs.length=n) (ap:All 4294967296 ps) (ab:All 4294967296 bs)
  (cp:∀j,j<n+1->w.cell? ⟨pb,po+j,none⟩=some (.int .u32 (nth ps j))) (cb:∀j,j<n->w.cell? ⟨bb,bo+j,none⟩=some (.int .u32 (nth bs j)))
  (htop:2147483648<=nth bs (n-1)) (hlt:val 4294967296 ps<val 4294967296 bs*4294967296) (hn2:n<=8796093022208:=by omega) :
  Calls prog 181 #[.slice (some ⟨pb,po,none⟩) (n+1) tU,.slice (some ⟨bb,bo,none⟩) n pj] w (FZ w (val 4294967296 ps) (val 4294967296 bs)):=by
 obtain ⟨m,rfl⟩:∃m,n=m+2:=⟨n-2,by omega⟩;have nb:=cm (by omega) ab;have np:=cm (by omega) ap;have l1:=ff (ab.take m);have l2:=ff (ap.take m);rw [List.length_take,Nat.min_eq_left (by omega)] at l1 l2;refine Wc pb po tU bb bo pj m (nth bs (m+1)) (nth bs m) (nth ps (m+2)) (nth ps (m+1)) (nth ps m) (val 4294967296 (bs.take m)) (val 4294967296 (ps.take m)) (4294967296 ^ m) _ _ w (by omega)
  (cp (m+2) (by omega)) (cp (m+1) (by omega)) (cp m (by omega)) (cb (m+1) (by omega)) (cb m (by omega)) ⟨l1,l2,?_,nb _,nb _,np _,np _,np _,?_,?_,?_,hlt⟩
 ·rw [show m+2-1=m+1 by omega] at htop;omega
 ·rw [show m+2-1=m+1 by omega] at htop;omega
 ·rw [gx 4294967296 bs (k:=m),fJ _ _ (by omega),fJ _ _ (by omega),List.drop_of_length_le (by omega)];simp only [val,Nat.mul_zero,Nat.add_zero];rw [Nat.mul_comm (4294967296 ^ m),Nat.add_comm];refine congrArg (· + _) (congrArg (· * _) ?_);omega
 ·rw [gx 4294967296 ps (k:=m),fJ _ _ (by omega),fJ _ _ (by omega),fJ _ _ (by omega),List.drop_of_length_le (by omega)];simp only [val,Nat.mul_zero,Nat.add_zero];rw [show m+1+1=m+2 from rfl];rw [Nat.mul_comm (4294967296 ^ m),Nat.add_comm];refine congrArg (· + _) (congrArg (· * _) ?_);omega
def cL (w:World) (g:Nat) (L:List Nat):Prop:=aN w 106 g L.length (λj=>.int .u32 (nth L j))
theorem cL.of {c:Nat->Value} (h:aN w 106 g n c) (hn:L.length=n) (hc:∀j,j<n->c j = .int .u32 (nth L j)):cL w g L:=by subst hn;exact h.congr hc
theorem cL.cell  (h:cL w g L) (hj:j<L.length):w.cell? ⟨g,j,none⟩=some (.int .u32 (nth L j)):=aN.cell h hj
theorem cL.grown {row:Option Nat} (h:cL w g L) (hg:w.grownBy w' row) (hne:some g≠row):cL w' g L:=aN.grown h hg hne
theorem cL.set  (h:cL w g L){x:Nat} (hi:i<L.length) (hv:v = .int .u32 x):cL (w.setCell ⟨g,i,none⟩ v) g (L.set i x):=by
 subst hv;refine cL.of (aN.set h i _) (by simp) λj hj=>?_;by_cases e:j=i
 ·subst e;rw [kj,pi _ hi]
 ·rw [upd_ne _ _ e,tR _ _ e]
theorem cL.over {N:Nat} (hN:R.length=N) (h:aN w 106 g N (lay (λj=>.int .u32 (nth R j)) k n .u32 Z)) (hZ:Z.length=n) (hk:k+n<=N):cL w g (Go.Proofs.YtlmanbjkkjfjgaaGreat.over R Z k):=by
 refine cL.of h (by rw [jY (by omega),hN]) λj hj=>?_;by_cases h1:k<=j∧j<k+n
 ·obtain ⟨i,rfl⟩:∃i,j=k+i:=⟨j-k,by omega⟩;rw [jc _ _ _,tV]
 ·rw [eG _ _ _,tW]
theorem cL.sl  (h:cL w g L) (off n cap:Nat) (h1:off+n<=L.length) (h2:n<=cap) (h3:cap<=9223372036854775807):Sl w .u32 (.slice (some ⟨g,off,none⟩) n cap) ((L.drop off).take n):=by
 have hl:((L.drop off).take n).length=n:=by rw [List.length_take,List.length_drop];omega
 refine ⟨_,cap,by rw [hl],by omega,h3,.inr ⟨g,off,rfl,aN.lt h,λj hj=>?_⟩⟩;rw [hl] at hj;rw [h.cell (by omega),fZ _ hj,jV]
theorem cL.lt  (h:cL w g L):g<w.heap.size:=aN.lt h
theorem mk_eq {i:TypeInfo} (hi:prog.info? 106=some i) (hz0:i.zero=some (.int .u32 0)) (hz1:i.size=1) (hz2:i.bytes=4) (n:Nat) (L:Int) (w:World) (hn:n<=17592186044416:=by omega) (hL:L=(n:Int):=by omega) :
  (Instr.makeSlice 26 (.int .i64 L) (.int .i64 L)).run prog w = .ok (.slice (some ⟨w.heap.size,0,none⟩) n n) (w.alloc (.cells (madeCells #[.int .u32 0] n) 106)):=by
 subst hL;have h:=run_make (P:=prog) w 26 106 i (.int .u32 0) underlying26 hi hz0 .i64 .i64 n n (by omega) (by omega) (by rw [hz2];omega) (by omega);simp only [Int.toNat_natCast,hz1,Nat.mul_one] at h;exact h
theorem Gb (w:World) (n:Nat):aN (w.alloc (.cells (madeCells #[.int .u32 0] n) 106)) 106 w.heap.size n (λ_=>.int .u32 0):=by
 have h:=aN.made w (madeCells #[.int .u32 0] n) 106 (λ_=>.int .u32 0) (λj hj=>by
  rw [size_madeCells] at hj;simp [madeCells,hj,Nat.mod_one])
 rwa [size_madeCells] at h
theorem xo (w:World) (n m:Nat):∃w2,((w.alloc (.cells (madeCells #[.int .u32 0] n) 106)).alloc (.cells (madeCells #[.int .u32 0] m) 106)).drew=w2 ∧
  aN w2 106 w.heap.size n (λ_=>.int .u32 0)∧aN w2 106 (w.heap.size+1) m (λ_=>.int .u32 0)∧w.grownBy w2 none∧w2.heap.size=w.heap.size+2:=by
 refine ⟨_,rfl,?_,?_,?_,by simp⟩
 ·exact ((Gb w n).alloc _).drew
 ·have:=Gb (w.alloc (.cells (madeCells #[.int .u32 0] n) 106)) m;rw [World.size_alloc] at this;exact this.drew
 ·exact bf (bf (bn _ _ _) (bn _ _ _)) (ec _ _)
structure jZ (w wr:World) (gr gb gq la n k:Nat) (A D:Nat) (jM:List Nat) (R Q:List Nat):Prop where
 r:cL wr gr R
 b:cL wr gb jM
 q:cL wr gq Q
 rl:R.length=la+1
 ql:Q.length=la-n+1
 ar:All 4294967296 R
 aq:All 4294967296 Q
 lt:val 4294967296 R<D*4294967296 ^ k
 eq:A=D*(4294967296 ^ k*val 4294967296 (Q.drop k))+val 4294967296 R
 grown:w.grownBy wr none
theorem jZ.next  (h:jZ w wr gr gb gq la n (k+1) A D jM R Q) (hD0:0<D) (hD:D<4294967296 ^ n) (hk:k+n<=la)
  (zl:Z.length=n+1) (az:All 4294967296 Z) (zv:val 4294967296 Z=val 4294967296 ((R.drop k).take (n+1)) % D)
  (hr:cL w' gr (over R Z k)) (hb:cL w' gb jM) (hq:cL w' gq (Q.set k (val 4294967296 ((R.drop k).take (n+1)) / D))) (hg:w.grownBy w' none) :
  jZ w w' gr gb gq la n k A D jM (over R Z k) (Q.set k (val 4294967296 ((R.drop k).take (n+1)) / D)):=by
 have hRl:=h.rl;have hQl:=h.ql;obtain ⟨e1,e2,e3⟩:=Gc (by omega) hD h.lt;generalize val 4294967296 ((R.drop k).take (n+1))=P at *
 have hov:=Wo (b:=4294967296) (R:=R) (Z:=Z) (k:=k) (by rw [zl,<- Nat.add_assoc];exact e3);have hm:=Nat.mod_lt P hD0;have hdm:=Nat.div_add_mod P D;have hql:P / D<4294967296:=by rw [Nat.div_lt_iff_lt_mul hD0,Nat.mul_comm];exact e2
 have lt:=ff (h.ar.take k);rw [List.length_take,Nat.min_eq_left (by omega)] at lt;refine ⟨hr,hb,hq,by rw [jY (by omega)];exact hRl,by rw [List.length_set];exact hQl,Wp h.ar az k,h.aq.set hql k,?_,?_,hg⟩
 ·rw [hov,zv];have:4294967296 ^ k*(P % D+1)<=4294967296 ^ k*D:=Nat.mul_le_mul_left _ hm;rw [Nat.mul_add,Nat.mul_comm _ D] at this;omega
 ·rw [hov,zv,qW _ (by omega)];have e4:=h.eq;rw [e1] at e4;generalize val 4294967296 (R.take k)=lo at *
  generalize val 4294967296 (Q.drop (k+1))=V at *
  rw [Nat.pow_succ] at e4;generalize P % D=r at *
  generalize P / D=q at *
  generalize (4294967296:Nat) ^ k=E at *
  subst hdm;rw [e4];simp only [Nat.mul_add,Nat.mul_assoc,Nat.mul_left_comm];grind
theorem Wq {Z2:List Nat} (h:k+Z.length<=R.length) (hl:Z2.length=Z.length):over (over R Z k) Z2 k=over R Z2 k:=by
 refine xV ?_ λj hj=>?_
 ·rw [jY (by rw [jY h];omega),jY h,jY (by omega)]
 ·by_cases h1:k<=j∧j<k+Z2.length
  ·obtain ⟨i,rfl⟩:∃i,j=k+i:=⟨j-k,by omega⟩;rw [tV (h:=(by rw [jY h];omega)),tV]
  ·rw [tW (h:=(by rw [jY h];omega)),tW (h:=h),tW]
theorem cL.own  (h:cL w g L) (hB:B<=g) (hn:L.length=n) (hc:n<=9223372036854775807):Own w 106 .u32 B (.slice (some ⟨g,0,none⟩) n n) L:=by subst hn;exact .inr ⟨g,_,_,rfl,hB,h,Nat.le_refl _,hc,λj _=>rfl⟩
theorem Ws {b:Nat} (hn:n<=R.length) (h:val b R<b ^ n:=by omega):val b (R.take n)=val b R:=by
 have e:=gx b R (h:=hn);rcases Nat.eq_zero_or_pos (val b (R.drop n)) with z | z
 ·rw [z,Nat.mul_zero,Nat.add_zero] at e;exact e.symm
 ·have:=Nat.mul_le_mul_left (b ^ n) z;omega
theorem jZ.end_  (h:jZ w wr gr gb gq la n 0 (A*2 ^ s) (B*2 ^ s) jM R Q) (hD:B*2 ^ s<4294967296 ^ n) (hn:n<=la) :
  A / B=val 4294967296 Q∧A % B=val 4294967296 (R.take n) / 2 ^ s:=by
 have h1:=h.lt;have h2:=h.eq;rw [Nat.pow_zero,Nat.mul_one] at h1;rw [Nat.pow_zero,Nat.one_mul,List.drop_zero] at h2;rw [Ws (by rw [h.rl];omega)];exact Wt (Nat.pow_pos (by omega)) h2 h1
theorem EG  (h0:0<top) (h1:top<4294967296):∃s:Nat,(32:Int)-(Lib.bitLen ((top:Nat):Int).toNat:Int)=(s:Int)∧s<32∧top*2 ^ s<4294967296∧2147483648<=top*2 ^ s:=by
 have a:=Lib.bitLen_le top 32 (by omega) (by omega);have b:=AC top;have c:=AD top h0;rw [Int.toNat_natCast];generalize Lib.bitLen top=l at *
 refine ⟨32-l,by omega,by omega,?_,?_⟩
 ·have:=Nat.mul_lt_mul_of_pos_right b (Nat.pow_pos (n:=32-l) (show 0<2 by omega));rw [<- Nat.pow_add,show l+(32-l)=32 by omega] at this;exact this
 ·have:=Nat.mul_le_mul_right (2 ^ (32-l)) c.1;rw [<- Nat.pow_add,show l-1+(32-l)=31 by omega] at this;exact this
theorem Wu {B0:List Nat} (hb:b.length=n) (ab:All 4294967296 b) (htop:nth b (n-1)=top) (h3:top*2 ^ s<4294967296) (h4:2147483648<=top*2 ^ s)
  (hs:s<32) (hB:B0.length=n+1) (hv:val 4294967296 B0=val 4294967296 b*2 ^ s) (aB:All 4294967296 B0) (hn:1<=n:=by omega) :
  val 4294967296 (B0.take n)=val 4294967296 b*2 ^ s∧val 4294967296 b*2 ^ s<4294967296 ^ n∧2147483648<=nth (B0.take n) (n-1)∧4294967296 ^ (n-1)<=val 4294967296 b:=by
 obtain ⟨m,rfl⟩:∃m,n=m+1:=⟨n-1,by omega⟩;rw [Nat.add_sub_cancel] at htop ⊢;have hp:0<2 ^ s:=Nat.pow_pos (by omega);have e1:=jX 4294967296 b (k:=m);rw [<- hb,List.take_length,htop] at e1;have l1:=ff (ab.take m);rw [List.length_take,Nat.min_eq_left (by omega)] at l1;have hdvd:4294967296=2 ^ s*2 ^ (32-s):=by rw [<- Nat.pow_add,show s+(32-s)=32 by omega]
 have ht1:(top+1)*2 ^ s<=4294967296:=by rw [hdvd,Nat.mul_comm] at h3 ⊢;have:=Nat.lt_of_mul_lt_mul_left h3;exact Nat.mul_le_mul_left _ this
 have Wv:1<=top:=Nat.pos_of_ne_zero (λh=>by subst h;simp at h4);have c1:val 4294967296 b*2 ^ s<4294967296 ^ (m+1):=by
  have h5:val 4294967296 b<4294967296 ^ m*(top+1):=by rw [e1,Nat.mul_add];omega
  have h6:=Nat.mul_lt_mul_of_pos_right h5 hp;rw [Nat.mul_assoc] at h6;have h7:=Nat.mul_le_mul_left (4294967296 ^ m) ht1;rw [Nat.pow_succ];omega
 have c2:4294967296 ^ m<=val 4294967296 b:=by have:=Nat.mul_le_mul_left (4294967296 ^ m) Wv;rw [e1];omega
 have e2:=jX 4294967296 B0 (k:=m+1);rw [show m+1+1=B0.length by omega,List.take_length,hv] at e2;have z:nth B0 (m+1)=0:=by
  rcases Nat.eq_zero_or_pos (nth B0 (m+1)) with h | h
  ·exact h
  ·have:=Nat.mul_le_mul_left (4294967296 ^ (m+1)) h;omega
 rw [z,Nat.mul_zero,Nat.add_zero] at e2;refine ⟨e2.symm,c1,?_,c2⟩;rw [fZ _ (by omega)];have e3:=jX 4294967296 B0 (k:=m);rw [<- e2,e1] at e3;have l2:=ff (aB.take m);rw [List.length_take,Nat.min_eq_left (by omega)] at l2;have h8:=Nat.mul_le_mul_left (4294967296 ^ m) h4;have h9:4294967296 ^ m*2147483648<4294967296 ^ m*(nth B0 m+1):=by rw [Nat.add_mul,Nat.mul_assoc] at e3;rw [Nat.mul_add];omega
 have:=Nat.lt_of_mul_lt_mul_left h9;omega
theorem jZ.start  (hr:cL wr gr R) (hb:cL wr gb jM) (hq:aN wr 106 gq (la-n+1) (λ_=>.int .u32 0))
  (rl:R.length=la+1) (ar:All 4294967296 R) (hlt:val 4294967296 R<D*4294967296 ^ (la-n+1)) (hg:w.grownBy wr none) :
  jZ w wr gr gb gq la n (la-n+1) (val 4294967296 R) D jM R (List.replicate (la-n+1) 0):=by
 have hv:val 4294967296 ((List.replicate (la-n+1) 0).drop (la-n+1))=0:=by rw [List.drop_replicate,lW]
 refine ⟨hr,hb,?_,rl,List.length_replicate,ar,All.no (by omega) _,hlt,?_,hg⟩
 ·exact cL.of hq List.length_replicate (λj hj=>by simp [nth,hj])
 ·rw [hv,Nat.mul_zero,Nat.mul_zero,Nat.zero_add]
set_option maxHeartbeats 4000000 in
set_option maxRecDepth 100000 in
theorem Ww {pa pb:Option Addr}{Gd:Nat} (ha:Sl w .u32 (.slice pa a.length Gd) a) (hb:Sl w .u32 (.slice pb b.length pj) b)
  (aa:All 4294967296 a) (ab:All 4294967296 b) (hn:2<=b.length) (hla:b.length<=a.length) (hl:a.length<=8796093022208) (htop:nth b (b.length-1)≠0) :
  Calls prog 173 #[.slice pa a.length Gd,.slice pb b.length pj] w (FW w (val 4294967296 a / val 4294967296 b) (val 4294967296 a % val 4294967296 b)):=by
 obtain ⟨i0,hi,hz0,hz1,hz2⟩:=info_parts Tryz.infoU;obtain ⟨la,xW⟩:∃la,a.length=la:=⟨_,rfl⟩;obtain ⟨n,hnl⟩:∃n,b.length=n:=⟨_,rfl⟩;obtain ⟨top,htp⟩:∃top,nth b (b.length-1)=top:=⟨_,rfl⟩;have htl:top<4294967296:=by rw [<- htp];exact cm (by omega) ab _
 rw [htp] at htop;obtain ⟨s,hs1,hs2,hs3,hs4⟩:=EG (Nat.pos_of_ne_zero htop) htl;obtain ⟨p',cap',e',-,-,h3⟩:=id hb;have hpp:p'=pb:=by cases e';rfl
 subst hpp;rcases h3 with h3 | ⟨bb,ic,rfl,hbl,hyy⟩
 ·rw [h3] at hn;simp at hn
 have c1:w.cell? ⟨bb,ic+(n-1),none⟩=some (.int .u32 top):=by rw [hyy _ (by omega),<- hnl,htp]
 rw [xW] at ha hla hl ⊢;rw [hnl] at hb hn hla ⊢;have tr:=λw=>mk_eq hi hz0 hz1 hz2 (la+1) ((la:Int)+1) w;have ER:=λw=>mk_eq hi hz0 hz1 hz2 (n+1) ((n:Int)+1) w;have hp0:0<2 ^ s:=Nat.pow_pos (by omega);have i1:(n:Int)-1<(n:Int):=by omega
 have Ha:=hid ha;have Hb:=hid hb;have Aa:=hid aa;have Ab:=hid ab;have Hal:=hid xW;have Hbl:=hid hnl;have Htp:=hid htp;have S3:=hid hs3;have S4:=hid hs4;have Hs1:=hid hs1;have Hp0:=hid hp0;clear ha hb aa ab xW hnl htp hs3 hs4 hs1 hyy e' htop hp0;go_enter func173,ntmps173
 go_wp2_with fail
 refine (AE _ _).mono ?_;rintro e w' ⟨rfl,rfl⟩;rw [Hs1.out];go_upto_region 3 with fail
 go_cut [8,9] (λrv bv wx=>∃gr gb:Nat,rv = .slice (some ⟨gr,0,none⟩) (la+1) (la+1)∧bv = .slice (some ⟨gb,0,none⟩) (n+1) (n+1) ∧
  aN wx 106 gr (la+1) (λ_=>.int .u32 0)∧aN wx 106 gb (n+1) (λ_=>.int .u32 0)∧w.grownBy wx none∧w.heap.size<=gr∧w.heap.size<=gb∧gr≠gb∧gr<wx.heap.size∧gb<wx.heap.size)
 case first=>
  go_region
  all_goals (go_wp2_with fail;go_meet)
  ·obtain ⟨w2,ew,r1,r2,g2,EM⟩:=xo w (la+1) (n+1);rw [ew];exact ⟨_,_,rfl,rfl,r1,r2,g2,by omega,by omega,by omega,by omega,by omega⟩
  ·obtain ⟨w2,ew,r2,r1,g2,EM⟩:=xo w (n+1) (la+1);rw [ew];exact ⟨_,_,rfl,rfl,r1,r2,g2,by omega,by omega,by omega,by omega,by omega⟩
 case rest=>
  obtain ⟨gr,gb,rfl,rfl,r1,r2,g2,lo1,lo2,lo3,lo4,lo5⟩:=hcut;clear tr ER;go_wp2_with fail
  have G2:=hid g2;have R1:=hid r1;have R2:=hid r2;clear g2 r1 r2;refine (FU gr 0 (la+1) (la+1) s la _ _ a wc R1.out hs2 (λj _=>⟨0,rfl⟩) (Ha.out.grown G2.out (.inl rfl)) ?_ Hal.out Aa.out).mono ?_
  ·intro h e;have:=Ha.out.block_lt h _ e;omega
  intro e w3 hwr;obtain ⟨R0,z1,z2,z3,rfl,rr,xX,Wx⟩:=hwr;have BR:=hid (show cL w3 gr R0 from cL.of rr z1 (λj hj=>jB _ _ _ hj));have RB:=hid (R2.out.grown xX (by simp;omega));have G3:=hid (di G2.out xX lo1);have Z1:=hid z1;have Z2:=hid z2;have Z3:=hid z3;clear z1 z2 z3 rr xX;go_wp2_with fail
  refine (FU gb 0 (n+1) (n+1) s n _ _ b w3 RB.out hs2 (λj _=>⟨0,rfl⟩) (Hb.out.grown G3.out (.inl rfl)) ?_ Hbl.out Ab.out).mono ?_
  ·intro h e;have:=Hb.out.block_lt h _ e;omega
  intro e w4 hwr;obtain ⟨B0,y1,y2,y3,rfl,rr,gr4,Wy⟩:=hwr;have BB:=hid (show cL w4 gb B0 from cL.of rr y1 (λj hj=>jB _ _ _ hj));have BR4:=hid (BR.out.grown gr4 (by simp;omega));have G4:=hid (di G3.out gr4 lo2);have Y1:=hid y1;have Y2:=hid y2;have Y3:=hid y3;have L4:=hid (show gr<w4.heap.size∧gb<w4.heap.size by omega);clear y1 y2 y3 rr gr4 Wy Wx;have NF:=Wu Hbl.out Ab.out (by have:=Htp.out;rw [Hbl.out] at this;exact this) S3.out S4.out hs2 Y1.out Y3.out Y2.out;obtain ⟨qZ,Gf,nf3,xY⟩:=NF;have hD0:0<val 4294967296 (B0.take n):=by rw [qZ];exact Nat.mul_pos (Nat.lt_of_lt_of_le (Nat.pow_pos (by omega)) xY) Hp0.out
  have hst:val 4294967296 R0<val 4294967296 (B0.take n)*4294967296 ^ (la-n+1):=by rw [Z3.out,qZ];have l1:=ff Aa.out;rw [Hal.out] at l1;have h5:=Nat.mul_lt_mul_of_pos_right l1 Hp0.out;have h6:=Nat.mul_le_mul_right (2 ^ s*4294967296 ^ (la-n+1)) xY;rw [Nat.mul_left_comm,<- Nat.pow_add,show n-1+(la-n+1)=la by omega,Nat.mul_comm (2 ^ s),<- Nat.mul_assoc] at h6;omega
  have Dl:=hid (show val 4294967296 (B0.take n)<4294967296 ^ n by rw [qZ];exact Gf);have DP:=hid hD0;have NF1:=hid qZ;have NF3:=hid nf3;have HSt:=hid hst;clear qZ Gf nf3 xY hD0 hst;have hqn:(la:Int)-(n:Int)+1=((la-n+1:Nat):Int):=by omega
  have Hqn:=hid hqn;clear hqn;go_wp2_with (at_make;refine jd rfl _ _ 26 rfl 106 i0 (.int .u32 0) underlying26 hi hz0 hz1 rfl _ _ _ _ (la-n+1) (la-n+1) rfl rfl (hL:=Hqn.out) (hC:=Hqn.out) (Nat.le_refl _) ?_;intro w5 r5 g5 s5;have R5:=hid r5;have G5:=hid g5;clear r5 g5)
  obtain ⟨gq,xZ⟩:∃gq,w4.heap.size=gq:=⟨_,rfl⟩;have bq:=R5.out;rw [xZ] at bq;have lq:gr<gq∧gb<gq∧gq<w5.heap.size:=by have:=L4.out;omega
  obtain ⟨lq1,lq2,lq3⟩:=lq;have Wz:=hid (bf G4.out G5.out);have start:=jZ.start (n:=n) (BR4.out.grown G5.out (by simp)) (BB.out.grown G5.out (by simp)) bq Z1.out Z2.out HSt.out Wz.out;have Start:=hid start;rw [xZ];have Gg:((la-n:Nat):Int)=((la-n+1:Nat):Int)-1:=by omega
  have WA:=hid Gg;have blt:n<=la:=hla;clear start bq Gg xZ R5 s5 BR BR4 RB BB L4 R1 R2;go_loopw [10] (λi wr=>∃(k:Nat) (q:Int) (R Q:List Nat),i = .int .i64 q∧q=(k:Int)-1∧k<=la-n+1∧gq<wr.heap.size∧Hid (jZ w wr gr gb gq la n k (val 4294967296 R0) (val 4294967296 (B0.take n)) B0 R Q)) (λi _=>(intOf i+1).toNat)
  case atStart=>exact ⟨la-n+1,_,R0,_,rfl,WA.out,by omega,lq3,Start.out⟩
  case round=>
   obtain ⟨k,q,R,Q,rfl,hq,hk,hsz,inv⟩:=hrel;clear Start HSt;cases k with
   | zero=>
    obtain rfl:q = -1:=by omega
    clear hq hk;go_wp2_with (at_make;refine jd rfl _ _ 26 rfl 106 i0 (.int .u32 0) underlying26 hi hz0 hz1 rfl _ _ _ _ n n rfl rfl (hL:=rfl) (hC:=rfl) (Nat.le_refl _) ?_;intro w6 r6 g6 s6;have R6:=hid r6;have G6:=hid g6;clear r6 g6)
    have rb:=inv.out;have hsl:=((rb.r.grown G6.out (by simp)).sl 0 n (la+1) (by rw [rb.rl];omega) (by omega) (by omega));rw [List.drop_zero] at hsl;have Hsl:=hid hsl;have Fn:=hid (NF1.out▸Z3.out▸rb:jZ w wr gr gb gq la n 0 (val 4294967296 a*2 ^ s) (val 4294967296 b*2 ^ s) B0 R Q);have Fe:=hid (Fn.out.end_ (by rw [<- NF1.out];exact Dl.out) hla);have Rt:=hid (show (R.take n).length=n by rw [List.length_take,rb.rl];omega);clear rb hsl;refine (Vq wr.heap.size 0 n n s n _ _ (R.take n) w6 R6.out hs2 (λj _=>⟨0,rfl⟩) Hsl.out ?_ Rt.out (inv.out.ar.take _)).mono ?_
    ·intro _ e;have:=inv.out.r.lt;simp [Value.ownBlock] at e;omega
    intro e w7 hwr;obtain ⟨Zr,x1,x2,x3,rfl,Gh,yc,WB⟩:=hwr;have G7:=hid (di (bf inv.out.grown G6.out) yc (by have:=inv.out.grown.size;omega));have Oq:=hid (((inv.out.q.grown G6.out (by simp)).grown yc (by simp;omega)).own (B:=w.heap.size) (by omega) inv.out.ql (by omega));have Or:=hid (show Own w7 106 .u32 w.heap.size (.slice (some ⟨wr.heap.size,0,none⟩) n n) Zr from
     .inr ⟨wr.heap.size,n,_,by rw [x1],by have:=inv.out.grown.size;omega,Gh,by omega,by omega,λj hj=>jB _ _ _ (by omega)⟩)
    have X2:=hid x2;have X3:=hid x3;clear x1 x2 x3 Gh yc WB;go_wp2_with fail
    refine (jq _ _ _ Q _ Oq.out.sl).mono ?_;rintro e w8 ⟨rfl,rfl⟩;go_wp2_with fail
    refine (jq _ _ _ Zr _ Or.out.sl).mono ?_;rintro e w8 ⟨rfl,rfl⟩;go_wp2_with fail
    go_ret2
    refine ⟨_,_,rfl,?_,?_,?_,G7.out⟩
    ·rw [Fe.out.1,<- eC inv.out.aq];exact Oq.out.trim
    ·rw [Fe.out.2,<- X3.out,<- eC X2.out];exact Or.out.trim
    ·simp [Value.ownBlock];omega
   | succ k=>
    obtain rfl:q=(k:Int):=by omega
    clear hq;have j1:(k:Int)<=(k:Int)+(n:Int)+1:=by omega
    have j2:(k:Int)+(n:Int)+1<=(la:Int)+1:=by omega
    have j3:k<=k+n+1:=by omega
    have j4:k+n+1<=la+1:=by omega
    have j5:¬la+1=k:=by omega
    have j6:(k:Int)<((la-n+1:Nat):Int):=by omega
    go_wp2_with fail
    rw [show k+n+1-k=n+1 by omega];have pl:((R.drop k).take (n+1)).length=n+1:=by rw [List.length_take,List.length_drop,inv.out.rl];omega
    have bl2:(B0.take n).length=n:=by rw [List.length_take,Y1.out];omega
    have Pv:=hid (Gc (n:=n) (by rw [inv.out.rl];omega) Dl.out inv.out.lt);have Ap:=hid (show All 4294967296 ((R.drop k).take (n+1)) from (inv.out.ar.drop _).take _);have yd:=hid (show All 4294967296 (B0.take n) from Y2.out.take _);have Pl:=hid pl;have ye:=hid bl2;clear pl bl2;refine (Wn hn Pl.out ye.out Ap.out yd.out (λj hj=>?_) (λj hj=>?_) NF3.out Pv.out.2.1).mono ?_
    ·rw [fZ _ hj,jV];exact inv.out.r.cell (by rw [inv.out.rl];omega)
    ·rw [Nat.zero_add,fZ _ hj];exact inv.out.b.cell (by rw [Y1.out];omega)
    rintro e w6 ⟨q0,rfl,ge,le,WC,dn,rfl⟩;have c2:(wr.drewN dn).cell? ⟨gq,k,none⟩=some (.int .u32 (nth Q k)):=inv.out.q.cell (by rw [inv.out.ql];omega);have f2:(wr.drewN dn).frozen? ⟨gq,k,none⟩=false:=aN.frozen inv.out.q k;have Ge:=hid ge;have Le:=hid le;have WD:=hid (show cL ((wr.drewN dn).setCell ⟨gq,k,none⟩ (.int .u32 q0)) gq (Q.set k q0) from cL.set (w:=wr.drewN dn) inv.out.q (by rw [inv.out.ql];omega) rfl);have Br7:=hid (show cL ((wr.drewN dn).setCell ⟨gq,k,none⟩ (.int .u32 q0)) gr R from (cL.grown (w':=wr.drewN dn) inv.out.r (jt _ _ none) (by simp)).grown (cI _ _ _ _) (by simp;omega));have Gi:=hid (show cL ((wr.drewN dn).setCell ⟨gq,k,none⟩ (.int .u32 q0)) gb B0 from (cL.grown (w':=wr.drewN dn) inv.out.b (jt _ _ none) (by simp)).grown (cI _ _ _ _) (by simp;omega));have G7:=hid (show w.grownBy ((wr.drewN dn).setCell ⟨gq,k,none⟩ (.int .u32 q0)) none from di (bf inv.out.grown (jt _ _ none)) (cI _ _ _ _) (by omega));have s7:gq<((wr.drewN dn).setCell ⟨gq,k,none⟩ (.int .u32 q0)).heap.size:=by simpa using hsz
    have S7:=hid s7;clear ge le s7;go_wp2_with fail
    generalize (wr.drewN dn).setCell ⟨gq,k,none⟩ (.int .u32 q0)=w7 at *
    have WE:=hid (show Sl w7 .u32 (.slice (some ⟨gb,0,none⟩) n (n+1)) (B0.take n) by
     have:=Gi.out.sl 0 n (n+1) (by rw [Y1.out];omega) (by omega) (by omega)
     rwa [List.drop_zero] at this)
    refine (We gr k R.length (la+1-k) n q0 _ _ ((R.drop k).take (n+1)) (B0.take n) w7 Br7.out (by rw [inv.out.rl];omega) WC (λj hj=>by rw [fZ _ hj,jV]) Pl.out Ap.out WE.out ?_ ye.out yd.out).mono ?_
    ·intro _ e;simp [Value.ownBlock] at e;omega
    intro e w8 hms;obtain ⟨Z,short,zl,az,rfl,Gj,gr8,Gk,hv⟩:=hms;have Br8:=hid (cL.over rfl Gj zl (by rw [inv.out.rl];omega));have tY:=hid (WD.out.grown gr8 (by simp;omega));have Gl:=hid (Gi.out.grown gr8 (by simp;omega));have G8:=hid (di G7.out gr8 (by omega));have Zl:=hid zl;have Az:=hid az;have Hv:=hid hv;have S8:=hid (show gq<w8.heap.size by rw [Gk];exact S7.out);clear zl az hv Gj gr8 Gk;cases short with
    | false=>
     have nm:=hid (WF DP.out Ge.out (by have:=Hv.out;simpa using this));go_wp2_with fail
     go_roundw
     case rel=>
      refine ⟨k,_,over R Z k,Q.set k q0,rfl,rfl,by omega,S8.out,?_⟩;have q1:=nm.out.1;subst q1;exact inv.out.next DP.out Dl.out (by omega) Zl.out Az.out nm.out.2 Br8.out Gl.out tY.out G8.out
     case measure=>simp [intOf]
    | true=>
     have hshort:=hid (show val 4294967296 ((R.drop k).take (n+1))<q0*val 4294967296 (B0.take n) by
      have h:=Hv.out;have l:=ff Az.out;rw [Zl.out] at l;simp only [if_true] at h;omega)
     have q01:1<=q0:=Nat.pos_of_ne_zero (λh=>by have:=hshort.out;rw [h,Nat.zero_mul] at this;omega);have c8:w8.cell? ⟨gq,k,none⟩=some (.int .u32 q0):=by rw [tY.out.cell (by rw [List.length_set,inv.out.ql];omega),pi _ (by rw [inv.out.ql];omega)]
     have f8:w8.frozen? ⟨gq,k,none⟩=false:=aN.frozen tY.out k;have Bq9:=hid (show cL (w8.setCell ⟨gq,k,none⟩ (.int .u32 ((q0:Int)-1))) gq ((Q.set k q0).set k (q0-1)) from cL.set tY.out (by rw [List.length_set,inv.out.ql];omega) (int_eq (by omega)));have WG:=hid (show cL (w8.setCell ⟨gq,k,none⟩ (.int .u32 ((q0:Int)-1))) gr (over R Z k) from Br8.out.grown (cI _ _ _ _) (by simp;omega));have Bb9:=hid (show cL (w8.setCell ⟨gq,k,none⟩ (.int .u32 ((q0:Int)-1))) gb B0 from Gl.out.grown (cI _ _ _ _) (by simp;omega));have G9:=hid (show w.grownBy (w8.setCell ⟨gq,k,none⟩ (.int .u32 ((q0:Int)-1))) none from di G8.out (cI _ _ _ _) (by omega));have S9:=hid (show gq<(w8.setCell ⟨gq,k,none⟩ (.int .u32 ((q0:Int)-1))).heap.size by simpa using S8.out);go_wp2_with fail
     generalize w8.setCell ⟨gq,k,none⟩ (.int .u32 ((q0:Int)-1))=w9 at *
     have Sb9:=hid (show Sl w9 .u32 (.slice (some ⟨gb,0,none⟩) n (n+1)) (B0.take n) by
      have:=Bb9.out.sl 0 n (n+1) (by rw [Y1.out];omega) (by omega) (by omega)
      rwa [List.drop_zero] at this)
     have hRl:Hid (k+Z.length<=R.length):=by show k+Z.length<=R.length;rw [Zl.out,inv.out.rl];omega
     refine (Wk gr k (over R Z k).length (la+1-k) n _ _ Z (B0.take n) w9 WG.out (by rw [jY hRl.out,inv.out.rl];omega) (λj hj=>by rw [tV (h:=hRl.out) (hj:=(by rw [Zl.out];exact hj))]) Zl.out Az.out Sb9.out ?_ ye.out yd.out).mono ?_
     ·intro _ e;simp [Value.ownBlock] at e;omega
     intro e w10 hab;obtain ⟨Z2,cc,yf,Gm,rfl,Gn,tZ,Gp,hv2⟩:=hab;have WH:=hid (cL.over rfl Gn yf (by rw [jY hRl.out,inv.out.rl];omega));have WI:=hid (Bq9.out.grown tZ (by simp;omega));have WJ:=hid (Bb9.out.grown tZ (by simp;omega));have G10:=hid (di G9.out tZ (by omega));have yg:=hid yf;have Az2:=hid Gm;have Hv2:=hid hv2;have WK:=hid (show gq<w10.heap.size by rw [Gp];exact S9.out);clear yf Gm hv2 Gn tZ Gp;have md:=hid (mend DP.out Le.out hshort.out (by have:=Hv.out;simpa using this) Hv2.out (by have l:=ff Az2.out;rwa [yg.out] at l) (by
      have:=Dl.out;have h2:(4294967296:Nat) ^ n<=4294967296 ^ (n+1):=Nat.pow_le_pow_right (by omega) (by omega);omega))
     go_wp2_with fail
     go_roundw
     case rel=>
      refine ⟨k,_,over R Z2 k,Q.set k (q0-1),rfl,rfl,by omega,WK.out,?_⟩;have q1:=md.out.1;have br:=WH.out;rw [Wq hRl.out (by rw [yg.out,Zl.out])] at br;have bq:=WI.out;rw [List.set_set] at bq;rw [q1] at bq ⊢;exact inv.out.next DP.out Dl.out (by omega) yg.out Az2.out md.out.2 br WJ.out bq G10.out
     case measure=>simp [intOf]
theorem WL {p q:Option Addr}{fL dw:Nat} (hx:Sl w .u32 (.slice p xs.length fL) xs) (hy:Sl w .u32 (.slice q ys.length dw) ys)
  (ha:trim xs=a) (hb:trim ys=b) (ax:All 4294967296 xs) (ay:All 4294967296 ys) (lx:xs.length<=8796093022208) (hn:2<=b.length:=by omega) (hge:b.length<=a.length:=by omega) :
  Calls prog 159 #[.slice p xs.length fL,.slice q ys.length dw] w (qX w (val 4294967296 a) (val 4294967296 b)):=by
 have Hx:=hid hx;have Hy:=hid hy;have Hta:=hid (show Sl w .u32 (.slice p a.length fL) a from ha▸hx.trim);have Htb:=hid (show Sl w .u32 (.slice q b.length dw) b from hb▸hy.trim);have Aa:=hid (show All 4294967296 a from ha▸ax.take _);have Ab:=hid (show All 4294967296 b from hb▸ay.take _);have la:a.length<=8796093022208:=by have:=gO xs xs.length;rw [<- ha,eX];omega
 have ht:nth b (b.length-1)≠0:=by
  have e2:=eC ay;have t:=tv (b:=4294967296) (by omega) (val 4294967296 ys);rw [<- e2,hb] at t;rcases t with t | t
  ·rw [t] at hn;simp at hn
  ·exact t
 have hvb:val 4294967296 b≠0:=by have:=Gs (b:=4294967296) (.inr ht) (by intro h;rw [h] at hn;simp at hn);omega
 have Ht:=hid ht;have Hvb:=hid hvb;have Ha:=hid ha;have Hb:=hid hb;have tb:(((b.length:Nat):Int) == 0)=false:=by rw [beq_eq_false_iff_ne];omega
 have tb1:(((b.length:Nat):Int) == 1)=false:=by rw [beq_eq_false_iff_ne];omega
 have tb2:decide (a.length<b.length)=false:=decide_eq_false (by omega);have tb3:¬a.length<b.length:=by omega
 clear hx hy ha hb ax ay ht hvb;go_enter func159,ntmps159
 go_wp2_with fail
 refine (fh Hx.out Ha.out).mono ?_;rintro e w' ⟨rfl,rfl⟩;go_wp2_with fail
 refine (fh Hy.out Hb.out).mono ?_;rintro e w' ⟨rfl,rfl⟩;go_wp2_with fail
 refine (Ww Hta.out Htb.out Aa.out Ab.out hn hge la Ht.out).mono ?_;rintro e w1 ⟨v,u,rfl,ho,hu,hne,hg⟩;have Ho:=hid ho;have Hu:=hid hu;have Hne:=hid hne;have Hg:=hid hg;clear ho hu hne hg;go_wp2_with fail
 go_ret3
 exact .inr ⟨Hvb.out,_,_,rfl,Ho.out,Hu.out,.inr Hne.out,Hg.out⟩
theorem WM {u:Value} (hx:Sl w .u32 v xs) (hy:Sl w .u32 u ys) (ax:All 4294967296 xs) (ay:All 4294967296 ys) (lx:xs.length<=8796093022208:=by omega) :
  Calls prog 159 #[v,u] w (qX w (val 4294967296 xs) (val 4294967296 ys)):=by
 obtain ⟨p,cap,rfl,-⟩:=id hx;obtain ⟨q,dw,rfl,-⟩:=id hy;rw [<- gZ (b:=4294967296) xs,<- gZ (b:=4294967296) ys];by_cases hb:trim ys = []
 ·rw [hb];exact VQ _ hx hy hb
 ·have lb:(trim ys).length≠0:=λh=>hb (List.eq_nil_of_length_eq_zero h);by_cases hlt:(trim xs).length<(trim ys).length
  ·exact VR hx hy rfl rfl hlt ax ay lx
  ·by_cases h1:(trim ys).length=1
   ·obtain ⟨d,hd⟩:∃d,trim ys = [d]:=List.length_eq_one_iff.1 h1;rw [hd,show val 4294967296 [d]=d by simp [val]];exact VS hx hy rfl hd ax ay lx
   ·exact WL hx hy rfl rfl ax ay lx
def Bd (A i:Nat):Prop:=A<4294967296 ^ i
theorem Bd.of  (h:All 4294967296 xs) (hl:xs.length<=i):Bd (val 4294967296 xs) i:=
 Nat.lt_of_lt_of_le (ff h) (Nat.pow_le_pow_right (by omega) hl)
theorem Bd.row (xs:List Nat) (h:All 4294967296 xs) (i:Nat):Bd (val 4294967296 (xs.take i)) i:=Bd.of (h.take i) (by rw [List.length_take];omega)
theorem Bd.len  (h:Bd A i):(an 4294967296 A).length<=i:=iq (by omega) i A h
theorem Bd.more {i:Nat} (h:Bd A i) (hj:i<=j):Bd A j:=Nat.lt_of_lt_of_le h (Nat.pow_le_pow_right (by omega) hj)
theorem Bd.le  (h:Bd A i) (hB:B<=A):Bd B i:=Nat.lt_of_le_of_lt hB h
theorem Bd.mul  (h:Bd A i) (k:Bd B j):Bd (A*B) (i+j):=by
 unfold Bd at *
 rw [Nat.pow_add];exact Nat.mul_lt_mul_of_le_of_lt (Nat.le_of_lt h) k (by omega)
theorem Bd.add  (h:Bd A i) (k:Bd B j):Bd (A+B) (i+j+1):=by
 have h1:=h.more (show i<=i+j by omega);have h2:=k.more (show j<=i+j by omega);unfold Bd at *
 rw [Nat.pow_succ];omega
theorem Bd.div  (h:Bd A i) (B:Nat):Bd (A / B) i:=h.le (Nat.div_le_self _ _)
theorem Bd.mod  (h:Bd A i) (B:Nat):Bd (A % B) i:=h.le (Nat.mod_le _ _)
theorem Bd.sub  (h:Bd A i) (B:Nat):Bd (A-B) i:=h.le (Nat.sub_le _ _)
def Num (w:World) (v:Value) (X k:Nat):Prop:=∃xs,Sl w .u32 v xs∧All 4294967296 xs∧val 4294967296 xs=X∧xs.length<=k
def iQ (w:World) (v:Value) (X k:Nat):Prop:=Sl w .u32 v (an 4294967296 X)∧Bd X k
theorem iQ.num  (h:iQ w v X k):Num w v X k:=⟨_,h.1,fg (by omega) _,dj (by omega) _,h.2.len⟩
theorem Num.grown  (h:Num w v X k) (g:w.grownBy w' none):Num w' v X k:=by obtain ⟨xs,h1,h2⟩:=h;exact ⟨xs,h1.grown g (.inl rfl),h2⟩
theorem iQ.grown  (h:iQ w v X k) (g:w.grownBy w' none):iQ w' v X k:=⟨h.1.grown g (.inl rfl),h.2⟩
theorem Num.bd  (h:Num w v X k):Bd X k:=by obtain ⟨xs,_,h2,rfl,h4⟩:=h;exact Bd.of h2 h4
theorem Num.slice  (h:Num w v X k):∃p n cap,v = .slice p n cap:=by obtain ⟨xs,⟨p,cap,rfl,_⟩,_⟩:=h;exact ⟨p,_,cap,rfl⟩
theorem Num.row  (h:Sl w .u32 v xs) (a:All 4294967296 xs) (k:Nat) (hl:xs.length<=k):Num w v (val 4294967296 xs) k:=⟨xs,h,a,rfl,hl⟩
theorem Num.lit (w:World) (x:Nat) (hx:x<4294967296):Num (w.alloc (.cells #[.int .u32 x] 106)) (.slice (some ⟨w.heap.size,0,none⟩) 1 1) x 1:=
 ⟨[x],(Own.one w .u32 106 x).sl,All.cons hx (All.nil _),by simp [val],Nat.le_refl _⟩
theorem Num.one (w:World):Num (w.alloc (.cells #[.int .u32 1] 106)) (.slice (some ⟨w.heap.size,0,none⟩) 1 1) 1 1:=Num.lit w 1 (by omega)
def kL (w:World) (X k:Nat) (e:Ending) (w':World):Prop:=∃v,e = .returned v∧Own w' 106 .u32 w.heap.size v (an 4294967296 X)∧Bd X k∧w.grownBy w' none
theorem kL.of {Y:Nat}{e:Ending} (h:Made 106 .u32 w (an 4294967296 X) e w') (hY:X=Y) (hb:Bd Y k):kL w Y k e w':=by subst hY;obtain ⟨v,h1,h2,h3⟩:=h;exact ⟨v,h1,h2,hb,h3⟩
section
variable {u:Value}{Y:Nat}
theorem Fa (hx:Num w v X i) (hy:Num w u Y j) (hi:i+j<=1000000:=by omega):Calls prog 146 #[v,u] w (kL w (X+Y) (i+j+1)):=by have b:=hx.bd.add hy.bd;obtain ⟨xs,s1,a1,rfl,l1⟩:=hx;obtain ⟨ys,s2,a2,rfl,l2⟩:=hy;exact (Vh s1 s2 a1 a2).mono λ_ _ h=>kL.of h rfl b
theorem Ud (hx:Num w v X i) (hy:Num w u Y j) (hi:i+j<=1000000:=by omega):Calls prog 145 #[v,u] w (kL w (X*Y) (i+j)):=by have b:=hx.bd.mul hy.bd;obtain ⟨xs,s1,a1,rfl,l1⟩:=hx;obtain ⟨ys,s2,a2,rfl,l2⟩:=hy;exact (VO s1 s2 a1 a2).mono λ_ _ h=>kL.of h rfl b
theorem tz (hx:Num w v X i) (hi:i<=1000000):Calls prog 102 #[v] w (kL w X i):=by have b:=hx.bd;obtain ⟨xs,s1,a1,rfl,l1⟩:=hx;refine (tt s1 (by omega)).mono λ_ _ h=>?_;rw [eC a1] at h;exact kL.of h rfl b
theorem TZ (hx:Num w v X i) (hi:i<=1000000):Calls prog 162 #[v] w λe w'=>e = .returned (.int .i64 ((an 2 X).length:Nat))∧w=w':=by obtain ⟨xs,s1,a1,rfl,l1⟩:=hx;exact Vs s1 a1
theorem xq (r:Int) (hx:Num w v X i) (hy:Num w u Y j) (hr:dq X Y=r):Calls prog 143 #[v,u] w λe w'=>e = .returned (.int .i64 r)∧w.grownBy w' none:=by subst hr;obtain ⟨xs,s1,a1,rfl,l1⟩:=hx;obtain ⟨ys,s2,a2,rfl,l2⟩:=hy;exact VU s1 s2 a1 a2
def WN (w:World) (X k:Nat) (e:Ending) (w':World):Prop:=∃v,e = .returned (.tuple #[v,.bool true])∧Own w' 106 .u32 w.heap.size v (an 4294967296 X)∧Bd X k∧w.grownBy w' none
theorem xA (hx:Num w v X i) (hy:Num w u Y j) (hle:Y<=X) (hi:i<=1000000:=by omega):Calls prog 161 #[v,u] w (WN w (X-Y) i):=by
 have b:=hx.bd.sub Y;obtain ⟨xs,s1,a1,rfl,l1⟩:=hx;obtain ⟨ys,s2,a2,rfl,l2⟩:=hy;refine (FT s1 s2 a1 a2).mono λe w' h=>?_;rcases h with ⟨h,_⟩ | ⟨_,v,h1,h2,h3⟩
 ·omega
 ·exact ⟨v,h1,h2,b,h3⟩
theorem Ub (hx:Num w v X i) (hy:Num w u Y j) (hlt:X<Y) (hi:i<=1000000:=by omega):Calls prog 161 #[v,u] w λe w'=>e = .returned (.tuple #[.slice none 0 0,.bool false])∧w.grownBy w' none:=by
 obtain ⟨xs,s1,a1,rfl,l1⟩:=hx;obtain ⟨ys,s2,a2,rfl,l2⟩:=hy;refine (FT s1 s2 a1 a2).mono λe w' h=>?_;rcases h with ⟨_,h,g⟩ | ⟨h,_⟩
 ·exact ⟨h,g⟩
 ·omega
def WO (w:World) (Q R i j:Nat) (e:Ending) (w':World):Prop:=
 ∃v u,e = .returned (.tuple #[v,u,.int .i64 0])∧Own w' 106 .u32 w.heap.size v (an 4294967296 Q)∧Own w' 106 .u32 w.heap.size u (an 4294967296 R) ∧
  (v.ownBlock=none∨v.ownBlock≠u.ownBlock)∧Bd Q i∧Bd R j∧w.grownBy w' none
theorem tw (hx:Num w v X i) (hy:Num w u Y j) (hne:Y≠0) (hi:i<=1000000:=by omega):Calls prog 159 #[v,u] w (WO w (X / Y) (X % Y) i j):=by
 have b:=hx.bd.div Y;have c:=hy.bd.le (Nat.le_of_lt (Nat.mod_lt X (Nat.pos_of_ne_zero hne)));obtain ⟨xs,s1,a1,rfl,l1⟩:=hx;obtain ⟨ys,s2,a2,rfl,l2⟩:=hy;refine (WM s1 s2 a1 a2).mono λe w' h=>?_;rcases h with ⟨h,_⟩ | ⟨_,v,u,h1,h2,h3,h4,h5⟩
 ·exact absurd h hne
 ·exact ⟨v,u,h1,h2,h3,h4,b,c,h5⟩
end
theorem iQ.none (w:World):iQ w (.slice none 0 0) 0 1:=⟨Sl.nil _ _,by unfold Bd;exact Nat.pow_pos (by omega)⟩
theorem ke {w1 w2:World}{e:TypeId}{k:IntKind}{xs:List Nat} (g:w1.grownBy w2 v.ownBlock) (h:Own w1 e k w.heap.size v xs) (g0:w.grownBy w1 none):w.grownBy w2 none:=
 ⟨g.os.trans g0.os,g.tape.trans g0.tape,g.output.trans g0.output,Nat.le_trans g0.size g.size,
  λi hi _=>(g.block i (Nat.lt_of_lt_of_le hi g0.size) (λe=>by have:=(h.lt i e.symm).1;omega)).trans (g0.block i hi (by simp))⟩
def nz (w:World) (B:Nat) (v:Value) (xs:List Nat):Prop:=∃g,B<=g∧v = .slice (some ⟨g,0,none⟩) xs.length (xs.length+3)∧cL w g (xs ++ List.replicate 3 1431655765)
theorem nz.sl  (h:nz w B v xs) (hl:xs.length<=1000000):Sl w .u32 v xs:=by obtain ⟨g,-,rfl,h⟩:=h;have:=h.sl 0 xs.length (xs.length+3) (by simp) (by omega) (by omega);rw [List.drop_zero,List.take_append_of_le_length (Nat.le_refl _),List.take_length] at this;exact this
theorem nz.grown {row:Option Nat} (h:nz w B v xs) (hg:w.grownBy w' row) (hne:row=none∨v.ownBlock≠row):nz w' B v xs:=by
 obtain ⟨g,hB,rfl,h⟩:=h;refine ⟨g,hB,rfl,h.grown hg ?_⟩;rcases hne with rfl | hne
 ·simp
 ·simpa [Value.ownBlock] using hne
theorem nz.lt  (h:nz w B v xs):∃g,v.ownBlock=some g∧B<=g∧g<w.heap.size:=by obtain ⟨g,hB,rfl,h⟩:=h;exact ⟨g,rfl,hB,h.lt⟩
end Go.Proofs.YtlmanbjkkjfjgaaGreat
