/- Package limb, the reader -/
import Derived.Test.YtlmanbjkkjfjgaaGreatBase
import Derived.Deep.QuietTactic
import Derived.BigQuiet
namespace Go.Proofs.YtlmanbjkkjfjgaaGreat
open Go.Proofs.Tryz
open Lib (hid)
open Go.RowKit
variable {B N cap fL dw g k lg m n off tot x:Nat}{p q:Option Addr}{Z a b xs ys zs:List Nat}{w w' w1 wr:World}{u v:Value}{c:Nat->Value}{e:TypeId}
def lenOf:Value->Nat | .slice _ n _=>n | _=>0
theorem FG  (h:x=0):(((x:Nat):Int) == 0)=true:=by subst h;rfl
theorem FH  (h:¬x=0):(((x:Nat):Int) == 0)=false:=by rw [beq_eq_false_iff_ne];omega
set_option maxHeartbeats 400000 in
theorem UK (b off n cap:Nat) (xs:List Nat) (w:World) (hn:n<=xs.length) (hcap:n<=cap) (hm:cap<=9223372036854775807)
  (hc:∀j,j<xs.length->w.cell? ⟨b,off+j,none⟩=some (.int .u32 (nth xs j))) :
  Calls prog 138 #[.slice (some ⟨b,off,none⟩) n cap] w λe w'=>e = .returned (.slice (some ⟨b,off,none⟩) (eW xs n) cap)∧w=w':=by
 go_enter func138,ntmps138
 go_wp2
 go_loop [0] (λv=>∃k:Nat,k<=n∧v = .slice (some ⟨b,off,none⟩) k cap∧eW xs k=eW xs n) (λv=>lenOf v)
 case atStart=>exact ⟨n,by omega,rfl,rfl⟩
 case round=>
  obtain ⟨k,hk,rfl,ht⟩:=hrel;have HT:=hid ht;clear ht;cases k with
  | zero=>
   go_wp2
   go_ret
   exact ⟨by rw [<- HT.out];rfl,rfl⟩
  | succ k=>
   have hcell:=hc k (by omega);clear hc;have hkc:k<=cap:=by omega
   by_cases h0:nth xs k=0
   ·have hb:=FG h0;have HZ:=hid h0;clear h0;go_wp2
    go_round
    case rel=>exact ⟨k,by omega,rfl,by rw [<- HT.out];simp [eW,HZ.out]⟩
    case measure=>simp [lenOf]
   ·have hb:=FH h0;go_wp2
    go_ret
    exact ⟨by rw [<- HT.out];simp [eW,h0],rfl⟩
set_option maxHeartbeats 400000 in
theorem UL (p:Option Addr) (cap:Nat) (w:World) :
  Calls prog 138 #[.slice p 0 cap] w λe w'=>e = .returned (.slice p 0 cap)∧w=w':=by
 go_enter func138,ntmps138
 go_wp2
 refine wp_loop_rounds 1 ?_;rw [rounds_succ];go_wp2
 go_ret
 exact ⟨rfl,rfl⟩
theorem jq (p:Option Addr) (n cap:Nat) (xs:List Nat) (w:World) (h:Sl w .u32 (.slice p n cap) xs) :
  Calls prog 138 #[.slice p n cap] w λe w'=>e = .returned (.slice p (trim xs).length cap)∧w=w':=by
 obtain ⟨p',cap',e,h1,h2,h3⟩:=h;simp only [Value.slice.injEq] at e;obtain ⟨rfl,rfl,rfl⟩:=e;rw [eX];rcases h3 with rfl | ⟨b,off,rfl,h4,h5⟩
 ·exact UL _ _ _
 ·exact UK b off xs.length cap xs w (Nat.le_refl _) h1 h2 h5
theorem UM (w:World):Calls prog 163 #[.bool true] w λe w'=>e = .returned (.int .i64 1)∧w=w':=by
 go_enter func163,ntmps163
 go_wp2
 go_ret
 exact ⟨rfl,rfl⟩
theorem UN (w:World):Calls prog 163 #[.bool false] w λe w'=>e = .returned (.int .i64 (-1))∧w=w':=by
 go_enter func163,ntmps163
 go_wp2
 go_ret
 exact ⟨rfl,rfl⟩
def oE:Bool->Int | true=>1 | false=>-1
theorem FI {p:Prop} [Decidable p] (h:p):oE (decide p)=1:=by rw [decide_eq_true h];rfl
theorem FJ {p:Prop} [Decidable p] (h:¬p):oE (decide p) = -1:=by rw [decide_eq_false h];rfl
theorem FK (b:Bool) (w:World):Calls prog 163 #[.bool b] w λe w'=>e = .returned (.int .i64 (oE b))∧w=w':=by
 cases b
 ·exact UN w
 ·exact UM w
theorem fh  (h:Sl w .u32 (.slice p n cap) xs) (ha:trim xs=a) :
  Calls prog 138 #[.slice p n cap] w λe w'=>e = .returned (.slice p a.length cap)∧w=w':=by
 subst ha;exact jq p n cap xs w h
set_option maxHeartbeats 400000 in
theorem UO (p q:Option Addr) (n m cap cap':Nat) (xs ys a c:List Nat) (w:World) (hx:Sl w .u32 (.slice p n cap) xs) (hy:Sl w .u32 (.slice q m cap') ys)
  (ha:trim xs=a) (hc:trim ys=c) (hne:a.length≠c.length) :
  Calls prog 143 #[.slice p n cap,.slice q m cap'] w λe w'=>e = .returned (.int .i64 (oE (decide (c.length<a.length))))∧∃n,w'=w.drewN n:=by
 have Hx:=hid hx;have Hy:=hid hy;have Ha:=hid ha;have Hc:=hid hc;clear hx hy ha hc;go_enter func143,ntmps143
 go_wp2_with fail
 refine (fh Hx.out Ha.out).mono ?_;rintro e w' ⟨rfl,rfl⟩;go_wp2_with fail
 refine (fh Hy.out Hc.out).mono ?_;rintro e w' ⟨rfl,rfl⟩;go_wp2_with fail
 refine (FK _ _).mono ?_;rintro e w' ⟨rfl,rfl⟩;go_wp2_with fail
 go_ret
 exact ⟨rfl,0,rfl⟩
set_option maxHeartbeats 400000 in
theorem UP (p q:Option Addr) (n m cap cap':Nat) (xs ys:List Nat) (w:World) (hx:Sl w .u32 (.slice p n cap) xs) (hy:Sl w .u32 (.slice q m cap') ys)
  (ha:trim xs = []) (hc:trim ys = []) :
  Calls prog 143 #[.slice p n cap,.slice q m cap'] w λe w'=>e = .returned (.int .i64 0)∧∃n,w'=w.drewN n:=by
 have Hx:=hid hx;have Hy:=hid hy;have Ha:=hid ha;have Hc:=hid hc;clear hx hy ha hc;go_enter func143,ntmps143
 go_wp2_with fail
 refine (fh Hx.out Ha.out).mono ?_;rintro e w' ⟨rfl,rfl⟩;go_wp2_with fail
 refine (fh Hy.out Hc.out).mono ?_;rintro e w' ⟨rfl,rfl⟩;go_wp2_with fail
 refine wp_loop_rounds 1 ?_;rw [rounds_succ];go_wp2
 go_ret
 exact ⟨rfl,0,rfl⟩
set_option maxHeartbeats 400000 in
theorem cmp_eq (b off cap b' off' cap' m n: Nat) (xs ys a c:List Nat) (w:World) (hx:Sl w .u32 (.slice (some ⟨b,off,none⟩) n cap) xs) (hy:Sl w .u32 (.slice (some ⟨b',off',none⟩) m cap') ys)
  (ha:trim xs=a) (hc:trim ys=c) (heq:a.length=c.length) (hlen:a.length<=9223372036854775807)
  (hca:∀j,j<a.length->w.cell? ⟨b,off+j,none⟩=some (.int .u32 (nth a j))) (hcc:∀j,j<c.length->w.cell? ⟨b',off'+j,none⟩=some (.int .u32 (nth c j))) (all:All 4294967296 a) (all':All 4294967296 c) :
  Calls prog 143 #[.slice (some ⟨b,off,none⟩) n cap,.slice (some ⟨b',off',none⟩) m cap'] w λe w'=>e = .returned (.int .i64 (dq (val 4294967296 a) (val 4294967296 c)))∧∃n,w'=w.drewN n:=by
 have Hx:=hid hx;have Hy:=hid hy;have Ha:=hid ha;have Hc:=hid hc;have He:=hid heq;have L1:a.length<=c.length:=by omega
 have L2:c.length<=a.length:=by omega
 have Al:=hid all;have xE:=hid all';clear hx hy ha hc heq all all';go_enter func143,ntmps143
 go_wp2_with fail
 refine (fh Hx.out Ha.out).mono ?_;rintro e w' ⟨rfl,rfl⟩;go_wp2_with fail
 refine (fh Hy.out Hc.out).mono ?_;rintro e w' ⟨rfl,rfl⟩;rw [<- He.out];go_wp2_with fail
 go_loopw [5] (λi wr=>∃(k n:Nat) (q:Int),k<=a.length∧i = .int .i64 q∧q=(k:Int)-1∧wr=w.drewN n∧a.drop k=c.drop k) (λi _=>(intOf i+1).toNat)
 case atStart=>exact ⟨a.length,0,_,Nat.le_refl _,rfl,rfl,rfl,by rw [List.drop_length,He.out,List.drop_length]⟩
 case round=>
  obtain ⟨k,d,q,hk,rfl,hq,rfl,hdr⟩:=hrel;have HD:=hid hdr;clear hdr;cases k with
  | zero=>
   obtain rfl:q = -1:=by omega
   clear hq;go_wp2
   go_ret
   refine ⟨?_,_,rfl⟩;have:a=c:=by simpa using HD.out
   simp [dq,this]
  | succ k=>
   obtain rfl:q=(k:Int):=by omega
   clear hq;have ka:=hca k (by omega);have kc:=hcc k (by omega);clear hca hcc;have b1:(k:Int)<(a.length:Int):=by omega
   by_cases hne:nth a k=nth c k
   ·have hb:(((nth a k:Nat):Int) != ((nth c k:Nat):Int))=false:=by rw [hne];simp
    have HE:=hid hne;clear hne;go_wp2
    go_quiet (fail)
    go_wp2
    go_roundw
    case rel=>exact ⟨k,_,_,by omega,rfl,rfl,rfl,by rw [qN a,qN c,HE.out,HD.out]⟩
    case measure=>simp [intOf]
   ·have hb:(((nth a k:Nat):Int) != ((nth c k:Nat):Int))=true:=by rw [bne_iff_ne];omega
    go_wp2
    go_quiet (fail)
    go_wp2
    have UQ:((w.drewN d).drewN nq).cell? ⟨b,off+k,none⟩=some (.int .u32 (nth a k)):=ka;have UR:((w.drewN d).drewN nq).cell? ⟨b',off'+k,none⟩=some (.int .u32 (nth c k)):=kc;generalize hw2:(w.drewN d).drewN nq=w2 at *
    have tJ:=hid hw2;clear hw2;go_quiet ((go_at_call 163;refine Calls.quiet_of_same ((FK _ _).mono λ_ _ h=>⟨h.1,h.2.symm⟩)))
    go_wp2
    go_ret
    obtain rfl:=tJ.out;refine ⟨gT ?_,_,by rw [World.drewN_drewN,World.drewN_drewN]⟩;rcases Nat.lt_or_ge (nth a k) (nth c k) with h | h
    ·rw [lN (tK (by omega) (by omega) HD.out Al.out h),FJ (by omega)]
    ·rw [tL (tK (by omega) (by omega) HD.out.symm xE.out (by omega)),FI (by omega)]
theorem xF  (hx:Sl w .u32 v xs) (hy:Sl w .u32 u ys) (ax:All 4294967296 xs) (ay:All 4294967296 ys) :
  Calls prog 143 #[v,u] w λe w'=>e = .returned (.int .i64 (dq (val 4294967296 xs) (val 4294967296 ys)))∧∃n,w'=w.drewN n:=by
 have tx:=hx;have ty:=hy;obtain ⟨p,cap,rfl,h1,h2,h3⟩:=hx;obtain ⟨p',cap',rfl,h1',h2',h3'⟩:=hy;have ex:val 4294967296 (trim xs)=val 4294967296 xs:=gZ xs;have ey:val 4294967296 (trim ys)=val 4294967296 ys:=gZ ys;have dx:=eC ax;have dy:=eC ay;have lx:(trim xs).length<=xs.length:=by rw [eX];exact gO _ _
 have ly:(trim ys).length<=ys.length:=by rw [eX];exact gO _ _
 by_cases hl:(trim xs).length=(trim ys).length
 ·by_cases h0:(trim xs).length=0
  ·have a0:trim xs = []:=List.eq_nil_of_length_eq_zero h0;have b0:trim ys = []:=List.eq_nil_of_length_eq_zero (hl▸h0);refine (UP p p' _ _ cap cap' xs ys w tx ty a0 b0).mono ?_;rintro e w' ⟨rfl,hw⟩;refine ⟨?_,hw⟩;rw [<- ex,<- ey,a0,b0,xG]
  ·rcases h3 with h3 | ⟨b,off,rfl,h4,h5⟩
   ·subst h3;simp [trim] at h0
   rcases h3' with h3' | ⟨b',off',rfl,h4',h5'⟩
   ·subst h3';exact absurd hl h0
   have q:=cmp_eq b off cap b' off' cap' ys.length xs.length xs ys (trim xs) (trim ys) w tx ty rfl rfl hl (by omega)
    (λj hj=>by rw [h5 j (by omega),trim,fZ _ (by rw [<- eX];omega)]) (λj hj=>by rw [h5' j (by omega),trim,fZ _ (by rw [<- eX];omega)])
    (ax.take _) (ay.take _)
   rw [ex,ey] at q;exact q
 ·refine (UO p p' _ _ cap cap' xs ys _ _ w tx ty rfl rfl hl).mono ?_;rintro e w' ⟨rfl,hw⟩;refine ⟨?_,hw⟩;congr 2;rcases Nat.lt_or_ge (trim xs).length (trim ys).length with h | h
  ·have:val 4294967296 xs<val 4294967296 ys:=by rw [dx,dy] at h;exact pf h
   rw [lN this,FJ (by omega)]
  ·have hlt:(trim ys).length<(trim xs).length:=by omega
   have:val 4294967296 ys<val 4294967296 xs:=by rw [dx,dy] at hlt;exact pf hlt
   rw [tL this,FI (by omega)]
theorem Tryz.infoU:(prog.info? 106).map (λi=>(i.zero,i.size,i.bytes))=some (some (.int .u32 0),1,4):=by kernel_rfl
theorem Tryz.sizeU:(prog.info? 106).map (·.size)=some 1:=by kernel_rfl
theorem Tryz.infoI:(prog.info? 3).map (λi=>(i.zero,i.size,i.bytes))=some (some (.int .i64 0),1,8):=by kernel_rfl
def Made (e:TypeId) (k:IntKind) (w:World) (xs:List Nat) (en:Ending) (w':World):Prop:=
 ∃v,en = .returned v∧Own w' e k w.heap.size v xs∧w.grownBy w' none
def US (e:TypeId) (k:IntKind) (w:World) (xs:List Nat) (en:Ending) (w':World):Prop:=
 ∃g cap,en = .returned (.slice (some ⟨g,0,none⟩) xs.length cap)∧Own w' e k w.heap.size (.slice (some ⟨g,0,none⟩) xs.length cap) xs∧w.grownBy w' none
set_option maxHeartbeats 400000 in
theorem FL  (hx:Sl w .u32 v xs) (hlen:xs.length<=17592186044416) :
  Calls prog 102 #[v] w (US 106 .u32 w (trim xs)):=by
 obtain ⟨p,cap,rfl,h1,h2,h3⟩:=id hx;have hl:(trim xs).length<=xs.length:=by rw [eX];exact gO _ _
 have ht:Sl w .u32 (.slice p (trim xs).length cap) (trim xs):=by
  have:=hx.take _ hl
  rwa [show xs.take (trim xs).length=trim xs by rw [eX];rfl] at this
 obtain ⟨i0,hi,hz0,hz1,hz2⟩:=info_parts Tryz.infoU;obtain ⟨a,ha⟩:∃a,trim xs=a:=⟨_,rfl⟩;rw [ha] at ht hl ⊢;have Hx:=hid hx;have Ht:=hid ht;have Ha:=hid ha;clear hx ht ha h3;go_enter func102,ntmps102
 go_wp2_with fail
 refine (fh Hx.out Ha.out).mono ?_;rintro e w' ⟨rfl,rfl⟩;go_wp2_with (first
  | (at_make;refine jd rfl _ _ 26 rfl 106 i0 (.int .u32 0) underlying26 hi hz0 hz1 rfl _ _ _ _ a.length a.length rfl rfl (hL:=rfl) (hC:=rfl) (Nat.le_refl _) ?_;intro w1 r1 g1 s1)
  | ((with_reducible refine Mh rfl (.tmp 9) (.tmp 10) 26 26 rfl 106 underlying26 Tryz.sizeU .u32 p w.heap.size 0 a.length a.length a.length a.length a.length cap (λ_=>.int .u32 0) a rfl rfl (Ht.out.grown g1 (.inl rfl)) r1 (Nat.min_self _).symm ?_);intro w2 r2 g2 s2))
 go_ret
 refine ⟨_,_,rfl,.inr ⟨_,_,_,rfl,Nat.le_refl _,r2,Nat.le_refl _,by omega,λj hj=>jB _ _ _ hj⟩,di g1 g2 (Nat.le_refl _)⟩
theorem tt  (hx:Sl w .u32 v xs) (hlen:xs.length<=17592186044416) :
  Calls prog 102 #[v] w (Made 106 .u32 w (trim xs)):=
 (FL hx hlen).mono λ_ _ ⟨_,_,h1,h2,h3⟩=>⟨_,h1,h2,h3⟩
def tM (B g:Nat) (w:World) (xs ys:List Nat) (en:Ending) (w':World):Prop:=
 ∃g' cap' zs,en = .returned (.slice (some ⟨g',0,none⟩) zs.length cap')∧Own w' 106 .u32 B (.slice (some ⟨g',0,none⟩) zs.length cap') zs∧All 4294967296 zs ∧
  val 4294967296 zs=val 4294967296 xs+val 4294967296 ys∧xs.length<=zs.length∧zs.length<=xs.length+1∧(zs.length=xs.length∨4294967296 ^ (zs.length-1)<=val 4294967296 zs)∧w.grownBy w' (some g)
theorem UT  (hB:B<=g) (hle:xs.length<=cap) (hcap:cap<=9223372036854775807)
  (hx:∀j,j<xs.length->c j = .int .u32 (nth xs j)) (hk:k<=xs.length) (ax:All 4294967296 xs)
  (h0:adR 4294967296 (nth xs) (nth ys) k=0)
  (hr:aN wr 106 g cap (lay c 0 k .u32 (pre (eK 4294967296 (nth xs) (nth ys)) xs.length))) (hg:w.grownBy wr (some g)) (hky:ys.length<=k:=by omega) :
  tM B g w xs ys (.returned (.slice (some ⟨g,0,none⟩) xs.length cap)) wr:=by
 have hz:∀d,k+d<=xs.length->adR 4294967296 (nth xs) (nth ys) (k+d)=0:=by
  intro d
  induction d with
  | zero=>intro _;exact h0
  | succ d ih=>
   intro hd;rw [<- Nat.add_assoc];simp only [adR];rw [ih (by omega),eV ys];have:=cm (by omega) ax (k+d);omega
 have hd:∀j,k<=j->j<xs.length->eK 4294967296 (nth xs) (nth ys) j=nth xs j:=by intro j h1 h2;have e:=hz (j-k) (by omega);rw [show k+(j-k)=j by omega] at e;have:=cm (by omega) ax j;simp only [eK];rw [e,eV ys];omega
 have hl:(pre (eK 4294967296 (nth xs) (nth ys)) xs.length).length=xs.length:=dW _ _;refine ⟨g,cap,pre (eK 4294967296 (nth xs) (nth ys)) xs.length,by rw [hl],.inr ⟨g,cap,_,rfl,hB,hr,by omega,hcap,λj hj=>?_⟩,gJ (λj _=>tN _ _ _),?_,by omega,by omega,.inl hl,hg⟩
 ·rw [hl] at hj;rw [fR _ hj];by_cases hjk:j<k
  ·rw [jB _ _ _ hjk,fR _ hj]
  ·rw [eG _ _ _,hx j hj,hd j (by omega) hj]
 ·have e:=qO 4294967296 (nth xs) (nth ys) xs.length;have e0:=hz (xs.length-k) (by omega);rw [show k+(xs.length-k)=xs.length by omega] at e0;rw [e0,fi _ xs (Nat.le_refl _),fi _ ys (by omega)] at e;simpa using e
theorem UU {v':Value}
  (h0:adR 4294967296 (nth xs) (nth ys) xs.length=1) (hg:w.grownBy wr (some g)) (hg':wr.grownBy w' (some g))
  (ho:Own w' 106 .u32 B v' (pre (eK 4294967296 (nth xs) (nth ys)) xs.length ++ [1])) (hky:ys.length<=xs.length:=by omega) :
  tM B g w xs ys (.returned v') w':=by
 have hl:(pre (eK 4294967296 (nth xs) (nth ys)) xs.length ++ [1]).length=xs.length+1:=by simp [dW]
 rcases id ho with ⟨_,h⟩ | ⟨g',cap',c,rfl,_⟩
 ·simp at h
 refine ⟨g',cap',_,rfl,ho,(gJ (λj _=>tN _ _ _)).app (All.cons (by omega) (All.nil _)),?_,by omega,by omega,.inr ?_,bf hg hg'⟩
 ·have e:=qO 4294967296 (nth xs) (nth ys) xs.length;rw [h0,fi _ xs (Nat.le_refl _),fi _ ys (by omega)] at e;rw [pg,dW];exact e
 ·rw [hl,pg,dW,Nat.add_sub_cancel];omega
set_option maxHeartbeats 1000000 in
theorem UV (g cap B:Nat) (vy:Value) (xs ys:List Nat) (w:World) (hown:Own w 106 .u32 B (.slice (some ⟨g,0,none⟩) xs.length cap) xs) (hy:Sl w .u32 vy ys) (hne:ys ≠ []->vy.ownBlock≠some g)
  (hl:ys.length<=xs.length) (ax:All 4294967296 xs) (ay:All 4294967296 ys) (hlen:xs.length<17592186044416) (hB:B<=w.heap.size) :
  Calls prog 177 #[.slice (some ⟨g,0,none⟩) xs.length cap,vy] w (tM B g w xs ys):=by
 obtain ⟨p,dw,rfl,h1,h2,h3⟩:=hy;rcases hown with ⟨h,_⟩ | ⟨g',cap',c,e,hBg,hr,hle,hcap,hx⟩
 ·cases h
 simp only [Value.slice.injEq,Option.some.injEq,Addr.mk.injEq,and_true] at e;obtain ⟨rfl,-,rfl⟩:=e;obtain ⟨i0,hi,hz0,hz1,hz2⟩:=info_parts Tryz.infoU;obtain ⟨n,hn⟩:∃n,xs.length=n:=⟨_,rfl⟩;obtain ⟨m,hm⟩:∃m,ys.length=m:=⟨_,rfl⟩;obtain ⟨Z,hZ⟩:∃Z,pre (eK 4294967296 (nth xs) (nth ys)) xs.length=Z:=⟨_,rfl⟩;have hZn:∀j,j<n->nth Z j=eK 4294967296 (nth xs) (nth ys) j:=λj hj=>by rw [<- hZ];exact fR _ (by omega)
 have hZl:Z.length=n:=by rw [<- hZ,dW,hn]
 have cz:∀k,k<=n->adR 4294967296 (nth xs) (nth ys) k<=1:=λk _=>xH (cm (by omega) ax) (cm (by omega) ay) k;rw [hn] at hl hlen hle hx ⊢;rw [hm] at hl h1 ⊢;have Hn:=hid hn;have Hm:=hid hm;have HZ:=hid hZ;have HZn:=hid hZn;have HZl:=hid hZl;have Hx:=hid hx;have Ax:=hid ax;have Ay:=hid ay;have H3:=hid h3;have Cz:=hid cz;have Hne:=hid hne;clear hn hm hZ hZn hZl hx ax ay h3 cz hne;go_enter func177,ntmps177
 go_wp2_with fail
 go_loopw [5,11] (λcv i wr=>∃k:Nat,k<=m∧i = .int .i64 k∧cv = .int .u64 (adR 4294967296 (nth xs) (nth ys) k)∧aN wr 106 g cap (lay c 0 k .u32 Z)∧w.grownBy wr (some g)) (λ_ i _=>(m-(intOf i).toNat))
 case atStart=>exact ⟨0,by omega,rfl,rfl,by rw [jC];exact hr,bH _ _⟩
 case round=>
  obtain ⟨k,hk,rfl,rfl,rr,gr⟩:=hrel;have hcr:=Cz.out k (by omega);by_cases hlt:k<m
  ·have c1:wr.cell? ⟨g,k,none⟩=some (.int .u32 (nth xs k)):=by
    rw [rr.cell (by omega),eG _ _ _,Hx.out k (by omega)]
   rcases H3.out with h3 | ⟨b,off,rfl,hbl,hy⟩
   ·have:=Hm.out;rw [h3] at this;simp at this;omega
   have c2:wr.cell? ⟨b,off+k,none⟩=some (.int .u32 (nth ys k)):=by rw [World.cell?_of_block (w:=w) (gr.block b hbl (by simpa [Value.ownBlock] using Hne.out (λh=>by have:=Hm.out;rw [h] at this;simp at this;omega))),hy k (by rw [Hm.out];omega)]
   clear hy;have f1:wr.frozen? ⟨g,k,none⟩=false:=rr.frozen k;have b1:nth xs k<4294967296:=cm (by omega) Ax.out k;have b2:nth ys k<4294967296:=cm (by omega) Ay.out k;have i1:(k:Int)<(n:Int):=by omega
   have HC:=hid (show adR 4294967296 (nth xs) (nth ys) (k+1)=(adR 4294967296 (nth xs) (nth ys) k+(nth xs k+nth ys k)) / 4294967296 from rfl);have HD:=hid (show nth Z k=(adR 4294967296 (nth xs) (nth ys) k+(nth xs k+nth ys k)) % 4294967296 from HZn.out k (by omega));generalize adR 4294967296 (nth xs) (nth ys) k=cr at *
   go_wp2
   go_roundw
   case rel=>
    refine ⟨k+1,by omega,by go_num,int_eq (by rw [HC.out];omega),?_,bf gr (cI _ _ _ _)⟩;rw [<- iG c k .u32 Z rfl];have hv:Value.int .u32 (((cr:Int)+((nth xs k:Nat)+(nth ys k:Nat):Int)) % 4294967296) = .int .u32 (nth Z k):=int_eq (by rw [HD.out];omega);rw [<- hv];exact rr.set k _
   case measure=>simp [intOf];omega
  ·obtain rfl:k=m:=by omega
   generalize qP:adR 4294967296 (nth xs) (nth ys) k=cr at *
   have HC0:=hid qP;clear qP;go_wp2
   go_loopw [8,5] (λi cv wr2=>∃q:Nat,k<=q∧q<=n∧i = .int .i64 q∧cv = .int .u64 (adR 4294967296 (nth xs) (nth ys) q)∧aN wr2 106 g cap (lay c 0 q .u32 Z)∧w.grownBy wr2 (some g)) (λi _ _=>(n-(intOf i).toNat))
   case atStart=>exact ⟨k,Nat.le_refl _,by omega,rfl,by rw [HC0.out],rr,gr⟩
   case round=>
    obtain ⟨q,hq,hqn,rfl,rfl,gA,iU⟩:=hrel;have hcq:=Cz.out q hqn;have HC:=hid (show adR 4294967296 (nth xs) (nth ys) (q+1)=(adR 4294967296 (nth xs) (nth ys) q+(nth xs q+nth ys q)) / 4294967296 from rfl);generalize qQ:adR 4294967296 (nth xs) (nth ys) q=cq at *
    have HC1:=hid qQ;clear qQ;by_cases h0:cq=0
    ·obtain rfl:=h0;go_wp2
     go_ret
     have e:=HZ.out;rw [<- e] at gA;have hn:=Hn.out;have hm:=Hm.out;subst hn;exact UT hBg hle hcap Hx.out hqn Ax.out HC1.out gA iU
    ·obtain rfl:cq=1:=by omega
     clear h0;by_cases hlt2:q<n
     ·have c1:wr.cell? ⟨g,q,none⟩=some (.int .u32 (nth xs q)):=by
       rw [gA.cell (by omega),eG _ _ _,Hx.out q (by omega)]
      have f1:wr.frozen? ⟨g,q,none⟩=false:=gA.frozen q;have b1:nth xs q<4294967296:=cm (by omega) Ax.out q;have i1:(q:Int)<(n:Int):=by omega
      have t1:((q:Int) == (n:Int))=false:=by rw [beq_eq_false_iff_ne];omega
      have y0:nth ys q=0:=eV ys (h:=(by rw [Hm.out];omega));have HD:=hid (show nth Z q=(1+nth xs q) % 4294967296 by rw [HZn.out q hlt2,eK,HC1.out,y0];rfl);have HC':=hid (show adR 4294967296 (nth xs) (nth ys) (q+1)=(1+nth xs q) / 4294967296 by rw [HC.out,y0];rfl);clear y0;have qR:aN (wr.setCell ⟨g,q,none⟩ (.int .u32 (nth Z q))) 106 g cap (lay c 0 (q+1) .u32 Z):=by rw [<- iG c q .u32 Z rfl];exact gA.set q _
      have qT:=hid qR;clear qR;by_cases hz:nth xs q=4294967295
      ·have HZ0:Hid (nth Z q=0):=by show nth Z q=0;rw [HD.out,hz]
       have HZ1:Hid (adR 4294967296 (nth xs) (nth ys) (q+1)=1):=by show adR _ _ _ _=1;rw [HC'.out,hz]
       rw [hz] at c1;go_wp2
       go_roundw
       case rel=>
        refine ⟨q+1,by omega,by omega,by go_num,by rw [HZ1.out],?_,bf iU (cI _ _ _ _)⟩;have e:=qT.out;rw [HZ0.out] at e;exact e
       case measure=>simp [intOf];omega
      ·have hz':nth xs q<4294967295:=by omega
       have HZ0:Hid (nth Z q=nth xs q+1):=by show nth Z q=_;rw [HD.out];omega
       have HZ1:Hid (adR 4294967296 (nth xs) (nth ys) (q+1)=0):=by show adR _ _ _ _=0;rw [HC'.out];omega
       have t2:(((nth xs q:Nat):Int)+1 != 0)=true:=by rw [bne_iff_ne];omega
       go_wp2
       go_roundw
       case rel=>
        refine ⟨q+1,by omega,by omega,by go_num,by rw [HZ1.out];rfl,?_,bf iU (cI _ _ _ _)⟩;have e:=qT.out;rw [HZ0.out] at e;exact e
       case measure=>simp [intOf];omega
     ·obtain rfl:q=n:=by omega
      have hown2:Own wr 106 .u32 B (.slice (some ⟨g,0,none⟩) q cap) Z:=by have hzl:=HZl.out;exact .inr ⟨g,cap,_,by rw [hzl],hBg,gA,by omega,hcap,λj hj=>jB _ _ _ (by omega)⟩
      have hs2:=iU.size;have Hl2:=hid (show Z.length<17592186044416 by rw [HZl.out];omega);go_wp2_with (at_builtin;refine jD rfl _ _ 26 rfl 106 i0 (.int .u32 0) .u32 underlying26 hi hz0 hz1 rfl B (.slice (some ⟨g,0,none⟩) q cap) Z 1 rfl (hown2.grown (bn _ _ none) (.inl rfl)) wr.heap.size rfl ?c1 Hl2.out (by simp;omega) ?_;(case c1=>exact (World.cell?_alloc_at _ _ _ _ rfl).trans rfl);intro v' w3 ho3 g3)
      go_ret
      have e:=HZ.out;have hn:=Hn.out;have hm:=Hm.out;subst e;subst hn;exact UU HC1.out iU (bf (bn _ _ _) g3) ho3
structure kN (w wr:World) (lg k:Nat) (g cap:Nat) (tot:Nat) (zs:List Nat):Prop where
 own:Own wr 106 .u32 w.heap.size (.slice (some ⟨g,0,none⟩) zs.length cap) zs
 all:All 4294967296 zs
 sum:val 4294967296 zs=tot
 lo:lg<=zs.length
 hi:zs.length<=lg+k
 top:zs.length=lg∨4294967296 ^ (zs.length-1)<=val 4294967296 zs
 grown:w.grownBy wr none
theorem kN.start  (hl:lg<17592186044416) (r:aN w1 106 w.heap.size (lg+1) (λ_=>.int .u32 0)) (g:w.grownBy w1 none) :
  kN w w1 lg 0 w.heap.size (lg+1) 0 (List.replicate lg 0) where
 own:=by refine .inr ⟨_,_,_,rfl,Nat.le_refl _,r,by simp,by omega,λj hj=>?_⟩;simp at hj;simp [nth,hj]
 all:=All.no (by omega) _
 sum:=lW _ _
 lo:=by simp
 hi:=by simp
 top:=.inl (by simp)
 grown:=g
theorem kN.next {e:Ending} (h:kN w wr lg k g cap tot zs) (a:tM w.heap.size g wr zs ys e w') :
  ∃g' cap' zs',e = .returned (.slice (some ⟨g',0,none⟩) zs'.length cap')∧kN w w' lg (k+1) g' cap' (tot+val 4294967296 ys) zs':=by
 obtain ⟨g',cap',zs',rfl,ho,ha,hv,h1,h2,h3,hg⟩:=a;have hB:=(h.own.lt g rfl).1;refine ⟨g',cap',zs',rfl,⟨ho,ha,by rw [hv,h.sum],by have:=h.lo;omega,by have:=h.hi;omega,?_,di h.grown hg hB⟩⟩;rcases h3 with h3 | h3
 ·rcases h.top with t | t
  ·exact .inl (h3.trans t)
  ·exact .inr (by rw [h3,hv];omega)
 ·exact .inr h3
theorem kN.done  (h:kN w wr lg k g cap tot zs) (ht:lg≠0->4294967296 ^ (lg-1)<=tot):zs=an 4294967296 tot:=by
 have t:jr zs:=by
  refine FM h.all ?_;rcases h.top with t | t
  ·by_cases h0:lg=0
   ·exact .inl (List.eq_nil_of_length_eq_zero (by omega))
   ·exact .inr (by rw [t,h.sum];exact ht h0)
  ·exact .inr t
 rw [<- h.sum,xJ h.all t]
set_option maxHeartbeats 1000000 in
theorem UW (v:Value) (n:Nat) (vs:Nat->Value) (ls:Nat->List Nat) (w:World) (hv:Aw w v n vs) (hs:∀j,j<n->Sl w .u32 (vs j) (ls j)) (ha:∀j,j<n->All 4294967296 (ls j))
  (M:Nat) (hM:∀j,j<n->(ls j).length<=M) (hlen:M+n<17592186044416:=by omega) :
  Calls prog 167 #[v] w (Made 106 .u32 w (an 4294967296 (jU (λj=>val 4294967296 (ls j)) n))):=by
 obtain ⟨p,cap,rfl,h1,h2,h3⟩:=hv;obtain ⟨i0,hi,hz0,hz1,hz2⟩:=info_parts Tryz.infoU;obtain ⟨tl,htl⟩:∃tl:Nat->Nat,tl=λj=>(trim (ls j)).length:=⟨_,rfl⟩;obtain ⟨vl,hvl⟩:∃vl:Nat->Nat,vl=λj=>val 4294967296 (ls j):=⟨_,rfl⟩;rw [<- hvl];have xK:∀j,j<n->tl j<=M:=λj hj=>by rw [htl];have:=hM j hj;have:=gO (ls j) (ls j).length;show (trim (ls j)).length<=M;rw [eX];omega
 have FN:∀k,k<=n->gj tl k<=M:=λk hk=>UX _ λj hj=>xK j (by omega);have Htl:=hid htl;have Hvl:=hid hvl;have Hs:=hid hs;have Ha:=hid ha;have H3:=hid h3;have UY:=hid xK;have MxM:=hid FN;have HM:=hid hM;clear htl hvl hs ha h3 xK FN hM;go_enter func167,ntmps167
 go_wp2_with fail
 go_loopw [3,11] (λlv i wr=>∃k:Nat,k<=n∧i = .int .i64 k∧lv = .int .i64 (gj tl k)∧w=wr) (λ_ i _=>(n-(intOf i).toNat))
 case atStart=>exact ⟨0,by omega,rfl,rfl,rfl⟩
 case round=>
  obtain ⟨k,hk,rfl,rfl,rfl⟩:=hrel;by_cases hlt:k<n
  ·rcases H3.out with h3 | ⟨b,off,rfl,hbl,hc⟩
   ·omega
   obtain ⟨pk,tO,hvk,hk1,hk2,hk3⟩:=Hs.out k hlt;have ck:=hc k hlt;rw [hvk] at ck;have Sk:=hid (hvk▸Hs.out k hlt);have HTk:=hid (show (trim (ls k)).length=tl k by rw [Htl.out]);have HX:=hid (show gj tl (k+1)=max (gj tl k) (tl k) from rfl);have m1:=MxM.out k hk;have m2:=UY.out k hlt;clear hc hvk hk3;generalize gj tl k=mx at *
   have i1:(k:Int)<(n:Int):=by omega
   go_wp2_with fail
   refine (jq _ _ _ _ _ Sk.out).mono ?_;rintro e w' ⟨rfl,rfl⟩;rw [HTk.out];go_wp2_with fail
   go_roundw
   case rel=>
    refine ⟨k+1,by omega,by go_num,int_eq ?_,trivial⟩;rw [HX.out];split <;> omega
   case measure=>simp [intOf];omega
  ·obtain rfl:k=n:=by omega
   have m1:=MxM.out k hk;have UZ:=hid (show gj tl k≠0->4294967296 ^ (gj tl k-1)<=jU vl k by
    intro h0;obtain ⟨j,hj,e⟩:=Vb tl k h0;have h1:=Vc vl hj;have h2:tl j=(an 4294967296 (vl j)).length:=by rw [Htl.out,Hvl.out];show (trim (ls j)).length=_;rw [eC (Ha.out j hj)]
    rw [e,h2];refine Nat.le_trans (xL (h:=?_)) h1;rw [<- h2,<- e];exact h0)
   have TL:=hid (show ∀j,j<k->tl j<=gj tl k from λj hj=>Vd tl hj);generalize gj tl k=mx at *
   go_wp2_with (at_make;refine jd rfl _ _ 26 rfl 106 i0 (.int .u32 0) underlying26 hi hz0 hz1 rfl _ _ _ _ mx (mx+1) rfl rfl (hL:=rfl) (by omega) ?_;intro w1 r1 g1 s1;have Si:=hid (kN.start (by omega) r1 g1);clear r1 g1 s1)
   go_loopw [6,27] (λov i wr2=>∃(q g2 cap2:Nat) (zs:List Nat),q<=k∧i = .int .i64 q∧ov = .slice (some ⟨g2,0,none⟩) zs.length cap2∧kN w wr2 mx q g2 cap2 (jU vl q) zs) (λ_ i _=>(k-(intOf i).toNat))
   case atStart=>
    refine ⟨0,_,_,_,by omega,rfl,?_,Si.out⟩;simp
   case round=>
    obtain ⟨q,g2,cap2,zs,hq,rfl,rfl,inv⟩:=hrel;by_cases hlt2:q<k
    ·rcases H3.out with h3 | ⟨b,off,rfl,hbl,hc⟩
     ·omega
     obtain ⟨pk,tO,hvk,hk1,hk2,hk3⟩:=Hs.out q hlt2;have ck:=hc q hlt2;rw [hvk] at ck;have ck2:wr.cell? ⟨b,off+q,none⟩=some (.slice pk (ls q).length tO):=by rw [World.cell?_of_block (w:=w) (inv.grown.block b hbl (by simp)),ck]
     have tP:=hvk▸Hs.out q hlt2;have Sk:=hid (tP.grown inv.grown (.inl rfl));have Tt:trim (ls q)=(ls q).take (trim (ls q)).length:=by rw [eX];rfl
     have Tl:(trim (ls q)).length<=(ls q).length:=by rw [eX];exact gO _ _
     have St:Sl wr .u32 (.slice pk (trim (ls q)).length tO) (trim (ls q)):=by
      have:=(tP.grown inv.grown (.inl rfl)).take _ Tl
      rwa [<- Tt] at this
     have Ve:=hid St;have Hb:=hid (show (trim (ls q)).length<=zs.length from by
      have h1:=TL.out q hlt2;have h2:=inv.lo;rw [Htl.out] at h1;exact Nat.le_trans h1 h2)
     have Hne:=hid (show trim (ls q) ≠ []->(Value.slice pk (trim (ls q)).length tO).ownBlock≠some g2 by
      intro h0 e;have l1:=(tP.take _ Tl).block_lt (by rw [<- Tt];exact h0) g2 e;have l2:=(inv.own.lt g2 rfl).1;omega)
     have i1:(q:Int)<(k:Int):=by omega
     have hsz:=inv.grown.size;have Inv:=hid inv;have L2:=hid (show zs.length<17592186044416 by have:=inv.hi;omega);have HV:=hid (show vl q=val 4294967296 (trim (ls q)) by rw [gZ,Hvl.out]);have HS:=hid (show jU vl (q+1)=jU vl q+vl q from rfl);have A1:=hid (show All 4294967296 (trim (ls q)) by rw [Tt];exact (Ha.out q hlt2).take _);clear hc hvk hk3 inv ck Tt Tl St tP;go_wp2_with fail
     refine (jq _ _ _ _ _ Sk.out).mono ?_;rintro e w' ⟨rfl,rfl⟩;go_wp2_with fail
     refine (UV g2 cap2 w.heap.size _ zs (trim (ls q)) wr Inv.out.own Ve.out Hne.out Hb.out Inv.out.all A1.out L2.out hsz).mono ?_;intro e w' had;obtain ⟨g3,FO,zs3,rfl,Vf⟩:=Inv.out.next had
     go_wp2_with fail
     go_roundw
     case rel=>
      refine ⟨q+1,g3,FO,zs3,by omega,by go_num,rfl,?_⟩;rw [HS.out,HV.out];exact Vf
     case measure=>simp [intOf];omega
    ·obtain rfl:q=k:=by omega
     have Inv:=hid inv;clear inv;go_wp2
     go_ret
     have e:=Inv.out.done UZ.out;have ho:=Inv.out.own;rw [<- e];exact ⟨_,rfl,ho,Inv.out.grown⟩
def two (a b:Value):Nat->Value:=λj=>if j=0 then a else b
def two' (a b:List Nat):Nat->List Nat:=λj=>if j=0 then a else b
theorem Vg (w:World) (a b:Value) (e:TypeId):Aw (w.alloc (.cells #[a,b] e)) (.slice (some ⟨w.heap.size,0,none⟩) 2 2) 2 (two a b):=by
 refine ⟨_,2,rfl,Nat.le_refl _,by omega,.inr ⟨w.heap.size,0,rfl,by simp,λj hj=>?_⟩⟩;rw [Nat.zero_add,World.cell?_alloc_at _ _ _ _ rfl];have:j=0∨j=1:=by omega
 rcases this with rfl | rfl <;> rfl
theorem Made.later {k:IntKind}{en:Ending} (h:Made e k w1 xs en w') (g:w.grownBy w1 none):Made e k w xs en w':=by obtain ⟨v,h1,h2,h3⟩:=h;exact ⟨v,h1,h2.mono g.size,bf g h3⟩
set_option maxHeartbeats 400000 in
theorem Vh  (hx:Sl w .u32 v xs) (hy:Sl w .u32 u ys) (ax:All 4294967296 xs) (ay:All 4294967296 ys) (lx:xs.length<=8796093022208:=by omega) (ly:ys.length<=8796093022208:=by omega) :
  Calls prog 146 #[v,u] w (Made 106 .u32 w (an 4294967296 (val 4294967296 xs+val 4294967296 ys))):=by
 obtain ⟨p,cap,rfl,-⟩:=id hx;obtain ⟨q,cap',rfl,-⟩:=id hy;have Hx:=hid hx;have Hy:=hid hy;have Ax:=hid ax;have Ay:=hid ay;clear hx hy ax ay;go_enter func146,ntmps146
 go_wp2_with fail
 refine (UW _ 2 (two (.slice p xs.length cap) (.slice q ys.length cap')) (two' xs ys) _ (Vg w _ _ _) ?_ ?_ 8796093022208 ?_).mono ?_
 ·intro j hj;have:j=0∨j=1:=by omega
  rcases this with rfl | rfl
  ·exact Hx.out.grown (bn _ _ none) (.inl rfl)
  ·exact Hy.out.grown (bn _ _ none) (.inl rfl)
 ·intro j hj;have:j=0∨j=1:=by omega
  rcases this with rfl | rfl
  ·exact Ax.out
  ·exact Ay.out
 ·intro j hj;have:j=0∨j=1:=by omega
  rcases this with rfl | rfl
  ·exact lx
  ·exact ly
 ·intro e w' h;obtain ⟨v',rfl,ho,hg⟩:=h.later (bn w _ none);go_wp2_with fail
  go_ret
  have e:jU (λj=>val 4294967296 (two' xs ys j)) 2=val 4294967296 xs+val 4294967296 ys:=by simp [jU,two']
  rw [e] at ho;exact ⟨_,rfl,ho,hg⟩
def xM (w:World) (m n:Nat) (en:Ending) (w':World):Prop:=
 (m<n∧en = .returned (.tuple #[.slice none 0 0,.bool false])∧w.grownBy w' none) ∨
 (n<=m∧∃v,en = .returned (.tuple #[v,.bool true])∧Own w' 106 .u32 w.heap.size v (an 4294967296 (m-n))∧w.grownBy w' none)
theorem Vi  (hB:B<=g) (hle:xs.length<=cap) (hcap:cap<=9223372036854775807)
  (hx:∀j,j<xs.length->c j = .int .u32 (nth xs j))
  (h0:bM (nth xs) (nth ys) k=0)
  (hr:aN wr 106 g cap (lay c 0 k .u32 (pre (gB 4294967296 (nth xs) (nth ys)) xs.length))) (hky:ys.length<=k:=by omega) :
  Own wr 106 .u32 B (.slice (some ⟨g,0,none⟩) xs.length cap) (pre (gB 4294967296 (nth xs) (nth ys)) xs.length):=by
 refine .inr ⟨g,cap,_,by rw [dW],hB,hr,by rw [dW];exact hle,hcap,λj hj=>?_⟩;rw [dW] at hj;rw [fR _ hj];by_cases hjk:j<k
 ·rw [jB _ _ _ hjk,fR _ hj]
 ·rw [eG _ _ _,hx j hj,Vj h0 hky]
theorem Own.trim {k:IntKind} (h:Own w e k B (.slice p m cap) xs):Own w e k B (.slice p (Go.Proofs.YtlmanbjkkjfjgaaGreat.trim xs).length cap) (Go.Proofs.YtlmanbjkkjfjgaaGreat.trim xs):=by
 have hl:(Go.Proofs.YtlmanbjkkjfjgaaGreat.trim xs).length<=xs.length:=by rw [eX];exact gO _ _
 have:=h.take _ hl
 rwa [show xs.take (Go.Proofs.YtlmanbjkkjfjgaaGreat.trim xs).length=Go.Proofs.YtlmanbjkkjfjgaaGreat.trim xs by rw [eX];rfl] at this
theorem Sl.trim {k:IntKind} (h:Sl w k (.slice p m cap) xs):Sl w k (.slice p (Go.Proofs.YtlmanbjkkjfjgaaGreat.trim xs).length cap) (Go.Proofs.YtlmanbjkkjfjgaaGreat.trim xs):=by
 have hl:(Go.Proofs.YtlmanbjkkjfjgaaGreat.trim xs).length<=xs.length:=by rw [eX];exact gO _ _
 have:=h.take _ hl
 rwa [show xs.take (Go.Proofs.YtlmanbjkkjfjgaaGreat.trim xs).length=Go.Proofs.YtlmanbjkkjfjgaaGreat.trim xs by rw [eX];rfl] at this
set_option maxHeartbeats 400000 in
theorem Vk  (hx:Sl w .u32 v xs) (hy:Sl w .u32 u ys) (ax:All 4294967296 xs) (ay:All 4294967296 ys) (hlt:val 4294967296 xs<val 4294967296 ys) :
  Calls prog 161 #[v,u] w (xM w (val 4294967296 xs) (val 4294967296 ys)):=by
 have Hx:=hid hx;have Hy:=hid hy;have Ax:=hid ax;have Ay:=hid ay;have Hlt:=hid (lN hlt);clear hx hy ax ay;go_enter func161,ntmps161
 go_wp2_with fail
 refine (xF Hx.out Hy.out Ax.out Ay.out).mono ?_;rintro e w' ⟨rfl,d,rfl⟩;rw [Hlt.out];go_wp2_with fail
 go_ret2
 exact .inl ⟨hlt,rfl,⟨rfl,rfl,rfl,Nat.le_refl _,λ_ _ _=>rfl⟩⟩
theorem jt (w:World) (n:Nat) (row:Option Nat):w.grownBy (w.drewN n) row:=⟨rfl,rfl,rfl,Nat.le_refl _,λ_ _ _=>rfl⟩
set_option maxHeartbeats 1000000 in
theorem Vl  (hx:Sl w .u32 v xs) (hy:Sl w .u32 u ys) (ax:All 4294967296 xs) (ay:All 4294967296 ys) (hle:val 4294967296 ys<=val 4294967296 xs) (hlen:xs.length<=17592186044416) :
  Calls prog 161 #[v,u] w (xM w (val 4294967296 xs) (val 4294967296 ys)):=by
 obtain ⟨p,cap,rfl,-⟩:=id hx;obtain ⟨q,dw,rfl,-⟩:=id hy;have Hx:=hid hx;have Hy:=hid hy;have Ax:=hid ax;have Ay:=hid ay;have Hle:=hid hle;obtain ⟨cv,hcv⟩:∃cv,dq (val 4294967296 xs) (val 4294967296 ys)=cv:=⟨_,rfl⟩
 have h0 : (0 : Int) <= cv := by rw [<- hcv]; unfold dq; split; · omega
                                 · split <;> omega
 have FP:=hid hcv;clear hx hy ax ay hle hcv;go_enter func161,ntmps161
 go_wp2_with fail
 refine (xF Hx.out Hy.out Ax.out Ay.out).mono ?_;rintro e w' ⟨rfl,d,rfl⟩;rw [FP.out];go_wp2_with fail
 refine (FL (Hx.out.grown (jt w d none) (.inl rfl)) hlen).mono ?_;rintro e w1 ⟨g,cp,rfl,ho0,hg0⟩;have hg1:w.grownBy w1 none:=bf (jt w d none) hg0;have ho:Own w1 106 .u32 w.heap.size (.slice (some ⟨g,0,none⟩) (trim xs).length cp) (trim xs):=ho0;have Hy1:=hid (Hy.out.grown hg1 (.inl rfl));have Hyt:=hid (Hy.out.trim);have tl:(trim ys).length<=(trim xs).length:=by
  rw [eC Ax.out,eC Ay.out];rcases Nat.lt_or_ge (an 4294967296 (val 4294967296 xs)).length (an 4294967296 (val 4294967296 ys)).length with h | h
  ·have:=pf h;have:=Hle.out;omega
  ·exact h
 have At:=hid (show All 4294967296 (trim xs) from Ax.out.take _);have Bt:=hid (show All 4294967296 (trim ys) from Ay.out.take _);have xN:=hid (show val 4294967296 (trim ys)<=val 4294967296 (trim xs) by rw [gZ,gZ];exact Hle.out);have Vx:=hid (show val 4294967296 xs=val 4294967296 (trim xs) from (gZ xs).symm);have Vy:=hid (show val 4294967296 ys=val 4294967296 (trim ys) from (gZ ys).symm);have Vm:(trim xs).length<=17592186044416:=by have:=gO xs xs.length;rw [eX];omega
 go_wp2_with fail
 refine (jq _ _ _ _ _ Hy1.out).mono ?_;rintro e w' ⟨rfl,rfl⟩;generalize trim xs=a at *
 generalize trim ys=b at *
 clear Hx Hy Hy1 FP Hle Ax Ay ho0 hg0;rcases ho with ⟨h,_⟩ | ⟨g',cp',c,e,hBg,hr,hac,hcap,hx⟩
 ·cases h
 simp only [Value.slice.injEq,Option.some.injEq,Addr.mk.injEq,and_true] at e;obtain ⟨rfl,-,rfl⟩:=e;obtain ⟨n,hn⟩:∃n,a.length=n:=⟨_,rfl⟩;obtain ⟨m,hm⟩:∃m,b.length=m:=⟨_,rfl⟩;obtain ⟨Z,hZ⟩:∃Z,pre (gB 4294967296 (nth a) (nth b)) a.length=Z:=⟨_,rfl⟩;have hZn:∀j,j<n->nth Z j=gB 4294967296 (nth a) (nth b) j:=λj hj=>by rw [<- hZ];exact fR _ (by omega)
 have Vn:=hid (FQ At.out Bt.out (by omega) tl xN.out);rw [hn] at tl Vm hac hx ⊢;rw [hm] at tl ⊢;have Hn:=hid hn;have Hm:=hid hm;have HZ:=hid hZ;have HZn:=hid hZn;have Hxx:=hid hx;have Hg:=hid hg1;have hs1:=hg1.size;clear hn hm hZ hZn hx hg1;go_wp2_with fail
 go_loopw [7,22] (λcv i wr=>∃k:Nat,k<=m∧i = .int .i64 k∧cv = .int .u64 (bM (nth a) (nth b) k)∧aN wr 106 g cp (lay c 0 k .u32 Z)∧w1.grownBy wr (some g)) (λ_ i _=>(m-(intOf i).toNat))
 case atStart=>exact ⟨0,by omega,rfl,rfl,by rw [jC];exact hr,bH _ _⟩
 case round=>
  obtain ⟨k,hk,rfl,rfl,rr,gr⟩:=hrel;have hcr:=qU (nth a) (nth b) k;by_cases hlt:k<m
  ·have c1:wr.cell? ⟨g,k,none⟩=some (.int .u32 (nth a k)):=by
    rw [rr.cell (by omega),eG _ _ _,Hxx.out k (by omega)]
   obtain ⟨p',cap',e',-,-,h3⟩:=Hyt.out;have hqq:p'=q:=by cases e';rfl
   subst hqq;rcases h3 with h3 | ⟨bb,off,rfl,hbl,hy⟩
   ·have:=Hm.out;rw [h3] at this;simp at this;omega
   have c2:wr.cell? ⟨bb,off+k,none⟩=some (.int .u32 (nth b k)):=by rw [World.cell?_of_block (w:=w1) (gr.block bb (by omega) (by simp;omega)),World.cell?_of_block (w:=w) (Hg.out.block bb hbl (by simp)),hy k (by rw [Hm.out];omega)]
   clear hy e';have f1:wr.frozen? ⟨g,k,none⟩=false:=rr.frozen k;have b1:nth a k<4294967296:=cm (by omega) At.out k;have b2:nth b k<4294967296:=cm (by omega) Bt.out k;have i1:(k:Int)<(n:Int):=by omega
   have HS:=hid (show nth Z k+(nth b k+bM (nth a) (nth b) k)=nth a k+4294967296*bM (nth a) (nth b) (k+1) by
    rw [HZn.out k (by omega)];exact tQ (cm (by omega) Bt.out) k)
   have HC:=hid (show bM (nth a) (nth b) (k+1)=if nth a k<nth b k+bM (nth a) (nth b) k then 1 else 0 from rfl);generalize bM (nth a) (nth b) k=cr at *
   by_cases hlt1:nth a k<nth b k
   ·have hC1:bM (nth a) (nth b) (k+1)=1:=by rw [HC.out,if_pos (by omega)]
    have HC1:=hid hC1;have e2:=HS.out;rw [hC1] at e2;have HE:=hid e2;clear hC1 e2;go_wp2
    go_roundw
    case rel=>
     refine ⟨k+1,by omega,by go_num,int_eq (by rw [HC1.out];exact Ma _ _ _ b2 hcr hlt1),?_,bf gr (cI _ _ _ _)⟩;rw [<- iG c k .u32 Z rfl];refine (rr.set k _).congr λj _=>?_;congr 1;refine int_eq ?_;rw [Mb _ _ _ b2 hcr hlt1];have:=HE.out;omega
    case measure=>simp [intOf];omega
   ·by_cases hlt2:nth a k<nth b k+cr
    ·have hC1:bM (nth a) (nth b) (k+1)=1:=by rw [HC.out,if_pos hlt2]
     have HC1:=hid hC1;have e2:=HS.out;rw [hC1] at e2;have HE:=hid e2;clear hC1 e2;go_wp2
     go_roundw
     case rel=>
      refine ⟨k+1,by omega,by go_num,int_eq (by rw [HC1.out];exact Mc _ _ _ hcr hlt2),?_,bf gr (cI _ _ _ _)⟩;rw [<- iG c k .u32 Z rfl];refine (rr.set k _).congr λj _=>?_;congr 1;refine int_eq ?_;rw [Md _ _ _ hcr hlt2];have:=HE.out;omega
     case measure=>simp [intOf];omega
    ·have hC1:bM (nth a) (nth b) (k+1)=0:=by rw [HC.out,if_neg hlt2]
     have HC1:=hid hC1;have e2:=HS.out;rw [hC1] at e2;have HE:=hid e2;clear hC1 e2;go_wp2
     go_roundw
     case rel=>
      refine ⟨k+1,by omega,by go_num,int_eq (by rw [HC1.out];exact LZ _ _ _ b1),?_,bf gr (cI _ _ _ _)⟩;rw [<- iG c k .u32 Z rfl];refine (rr.set k _).congr λj _=>?_;congr 1;refine int_eq ?_;have:=HE.out;omega
     case measure=>simp [intOf];omega
  ·obtain rfl:k=m:=by omega
   generalize qP:bM (nth a) (nth b) k=cr at *
   have HC0:=hid qP;clear qP;go_wp2
   go_loopw [11,7] (λi cv wr2=>∃q:Nat,k<=q∧q<=n∧i = .int .i64 q∧cv = .int .u64 (bM (nth a) (nth b) q)∧aN wr2 106 g cp (lay c 0 q .u32 Z)∧w1.grownBy wr2 (some g)) (λi _ _=>(n-(intOf i).toNat))
   case atStart=>exact ⟨k,Nat.le_refl _,by omega,rfl,by rw [HC0.out],rr,gr⟩
   case round=>
    obtain ⟨q,hq,hqn,rfl,rfl,gA,iU⟩:=hrel;have hcq:=qU (nth a) (nth b) q;have HC:=hid (show bM (nth a) (nth b) (q+1)=if nth a q<nth b q+bM (nth a) (nth b) q then 1 else 0 from rfl);generalize qQ:bM (nth a) (nth b) q=cq at *
    have HC1:=hid qQ;clear qQ;by_cases h0:cq=0
    ·obtain rfl:=h0;have ho2:Own wr 106 .u32 w.heap.size (.slice (some ⟨g,0,none⟩) n cp) Z:=by
      have e:=HZ.out;have hn:=Hn.out;have hm:=Hm.out;subst hn;subst e;exact Vi hBg hac hcap Hxx.out HC1.out gA
     have Ho2:=hid ho2;have Hgf:=hid (di Hg.out iU hBg);clear ho2;go_wp2_with fail
     refine (jq _ _ _ Z _ Ho2.out.sl).mono ?_;rintro e w' ⟨rfl,rfl⟩;go_wp2_with fail
     go_ret2
     have hv:val 4294967296 Z=val 4294967296 a-val 4294967296 b:=by rw [<- HZ.out];exact FR At.out Bt.out (by rw [Hn.out,Hm.out];omega) xN.out
     refine .inr ⟨by rw [Vx.out,Vy.out];exact xN.out,_,rfl,?_,Hgf.out⟩;have az:All 4294967296 Z:=by rw [<- HZ.out];exact gJ (λj _=>xO (cm (by omega) At.out) j)
     rw [Vx.out,Vy.out,<- hv,<- eC az];exact Ho2.out.trim
    ·obtain rfl:cq=1:=by omega
     clear h0;by_cases hlt2:q<n
     ·have c1:wr.cell? ⟨g,q,none⟩=some (.int .u32 (nth a q)):=by
       rw [gA.cell (by omega),eG _ _ _,Hxx.out q (by omega)]
      have f1:wr.frozen? ⟨g,q,none⟩=false:=gA.frozen q;have b1:nth a q<4294967296:=cm (by omega) At.out q;have i1:(q:Int)<(n:Int):=by omega
      have y0:nth b q=0:=eV b (h:=(by rw [Hm.out];omega));have HS:=hid (show nth Z q+(nth b q+bM (nth a) (nth b) q)=nth a q+4294967296*bM (nth a) (nth b) (q+1) by
       rw [HZn.out q (by omega)];exact tQ (cm (by omega) Bt.out) q)
      have HY:=hid y0;clear y0;have qR:aN (wr.setCell ⟨g,q,none⟩ (.int .u32 (nth Z q))) 106 g cp (lay c 0 (q+1) .u32 Z):=by rw [<- iG c q .u32 Z rfl];exact gA.set q _
      have qT:=hid qR;clear qR;by_cases hz:nth a q=0
      ·have HE1:Hid (bM (nth a) (nth b) (q+1)=1):=by show bM _ _ _=1;rw [HC.out,HY.out,if_pos (by omega)]
       have HE2:Hid (nth Z q=4294967295):=by have e:=HS.out;rw [HE1.out,HY.out,HC1.out] at e;show nth Z q=_;omega
       rw [hz] at c1;go_wp2
       go_roundw
       case rel=>
        refine ⟨q+1,by omega,by omega,by go_num,by rw [HE1.out];try rfl,?_,bf iU (cI _ _ _ _)⟩;have e:=qT.out;rw [HE2.out] at e;exact e
       case measure=>simp [intOf];omega
      ·have HE1:Hid (bM (nth a) (nth b) (q+1)=0):=by show bM _ _ _=0;rw [HC.out,HY.out,if_neg (by omega)]
       have HE2:Hid (nth Z q=nth a q-1):=by have e:=HS.out;rw [HE1.out,HY.out,HC1.out] at e;show nth Z q=_;omega
       have hz':1<=nth a q:=by omega
       have t2:(((nth a q:Nat):Int) != 0)=true:=by rw [bne_iff_ne];omega
       go_wp2
       go_roundw
       case rel=>
        refine ⟨q+1,by omega,by omega,by go_num,by rw [HE1.out];try rfl,?_,bf iU (cI _ _ _ _)⟩;have e:=qT.out;have hv:Value.int .u32 (((nth a q:Nat):Int)-1) = .int .u32 (nth Z q):=int_eq (by rw [HE2.out];omega);rw [hv];exact e
       case measure=>simp [intOf];omega
     ·obtain rfl:q=n:=by omega
      have e:=Vn.out;rw [Hn.out,HC1.out] at e;omega
theorem FT  (hx:Sl w .u32 v xs) (hy:Sl w .u32 u ys) (ax:All 4294967296 xs) (ay:All 4294967296 ys) (hlen:xs.length<=17592186044416:=by omega) :
  Calls prog 161 #[v,u] w (xM w (val 4294967296 xs) (val 4294967296 ys)):=by
 rcases Nat.lt_or_ge (val 4294967296 xs) (val 4294967296 ys) with h | h
 ·exact Vk hx hy ax ay h
 ·exact Vl hx hy ax ay h hlen
def Wrote (w:World) (g N off n:Nat) (c:Nat->Value) (P:List Nat->Prop) (en:Ending) (w':World):Prop:=
 ∃Z,Z.length=n∧All 4294967296 Z∧P Z∧en = .returned (.tuple #[])∧aN w' 106 g N (lay c off n .u32 Z)∧w.grownBy w' (some g)∧w'.heap.size=w.heap.size
theorem lZ  (h:aN w e g N (lay c off n .u32 Z)) (hv:v = .int .u32 (nth Z n)) :
  aN (w.setCell ⟨g,off+n,none⟩ v) e g N (lay c off (n+1) .u32 Z):=by
 rw [<- Av c off n .u32 Z hv];exact h.set _ _
set_option maxHeartbeats 1000000 in
theorem FU (g off N cap n m:Nat) (vy:Value) (c:Nat->Value) (ys:List Nat) (w:World) (hr:aN w 106 g N c) (hn:n<32)
  (hc:∀j,j<m+1->∃x:Nat,c (off+j) = .int .u32 x) (hy:Sl w .u32 vy ys) (hne:ys ≠ []->vy.ownBlock≠some g) (hm:ys.length=m) (ay:All 4294967296 ys) (hN:off+m+1<=N:=by omega) :
  Calls prog 180 #[.slice (some ⟨g,off,none⟩) (m+1) cap,vy,.int .i64 n] w (Wrote w g N off (m+1) c (λZ=>val 4294967296 Z=val 4294967296 ys*2 ^ n)):=by
 obtain ⟨p,dw,rfl,h1,h2,h3⟩:=hy;have hp:=rY hn;have hp0:0<2 ^ n:=Nat.pow_pos (by omega);have fS:=cm (by omega) ay;obtain ⟨s,hs⟩:∃s:Nat->Nat,s=λj=>nth ys j*2 ^ n:=⟨_,rfl⟩;have kO:∀k,chC 4294967296 s 0 k<2 ^ n:=λk=>by rw [hs];exact xP (λj=>Vo (fS j)) (h0:=hp0) k
 obtain ⟨Z,hZ⟩:∃Z,pre (iu 4294967296 s 0) (m+1)=Z:=⟨_,rfl⟩;have hZn:∀j,j<m+1->nth Z j=iu 4294967296 s 0 j:=λj hj=>by rw [<- hZ];exact fR _ (by omega)
 have fin:Z.length=m+1∧All 4294967296 Z∧val 4294967296 Z=val 4294967296 ys*2 ^ n:=by
  refine ⟨by rw [<- hZ,dW],by rw [<- hZ];exact gJ λj _=>xQ _ _ _,?_⟩;have e:=xR 4294967296 s 0 (m+1);have e0:chC 4294967296 s 0 (m+1)=0:=by have:=kO m;simp only [chC];rw [show s m=0 by rw [hs];show nth ys m*2 ^ n=0;rw [eV ys];simp];omega
  rw [e0,hZ,hs,val_mul,fi _ ys (by omega)] at e;omega
 rw [hm] at h1 ⊢;have Hm:=hid hm;have HZn:=hid hZn;have Fin:=hid fin;have H3:=hid h3;have qV:=hid kO;have Hs:=hid hs;have Hne:=hid hne;have Hc:=hid hc;have ju:=hid fS;clear hm hZ hZn fin h3 kO hs hne hc fS ay hp hp0;go_enter func180,ntmps180
 go_wp2_with fail
 go_loopw [6,11] (λcv i wr=>∃k:Nat,k<=m∧i = .int .i64 k∧cv = .int .u64 (chC 4294967296 s 0 k)∧aN wr 106 g N (lay c off k .u32 Z)∧w.grownBy wr (some g)∧wr.heap.size=w.heap.size) (λ_ i _=>(m-(intOf i).toNat))
 case atStart=>exact ⟨0,by omega,rfl,rfl,by rw [jC];exact hr,bH _ _,rfl⟩
 case round=>
  obtain ⟨k,hk,rfl,rfl,rr,gr,sr⟩:=hrel;have Sr:=hid sr;clear sr;have f1:wr.frozen? ⟨g,off+k,none⟩=false:=rr.frozen _;obtain ⟨x0,hx0⟩:=Hc.out k (by omega);have c1:wr.cell? ⟨g,off+k,none⟩=some (.int .u32 x0):=by rw [rr.cell (by omega),eG _ _ _,hx0]
  clear hx0;have HC:=hid (show chC 4294967296 s 0 (k+1)=(chC 4294967296 s 0 k+s k) / 4294967296 from rfl);have HD:=hid (show nth Z k=(chC 4294967296 s 0 k+s k) % 4294967296 from HZn.out k (by omega));have hcl:=qV.out k;have hp:=rY hn;have aiy:chC 4294967296 s 0 k<4294967296:=by omega
  by_cases hlt:k<m
  ·rcases H3.out with h3 | ⟨b,ic,rfl,hbl,hy⟩
   ·have:=Hm.out;rw [h3] at this;simp at this;omega
   have c2:wr.cell? ⟨b,ic+k,none⟩=some (.int .u32 (nth ys k)):=by rw [World.cell?_of_block (w:=w) (gr.block b hbl (by simpa [Value.ownBlock] using Hne.out (λh=>by have:=Hm.out;rw [h] at this;simp at this;omega))),hy k (by rw [Hm.out];omega)]
   clear hy;have b2:nth ys k<4294967296:=ju.out k;have i1:(k:Int)<(m:Int):=by omega
   have HO:=hid (Me (chC 4294967296 s 0 k) (nth ys k) n hcl hn b2);have HSk:=hid (show s k=nth ys k*2 ^ n by rw [Hs.out]);generalize chC 4294967296 s 0 k=cr at *
   clear hcl hp;go_wp2
   go_roundw
   case rel=>
    refine ⟨k+1,by omega,by go_num,int_eq ?_,?_,bf gr (cI _ _ _ _),by simpa using Sr.out⟩
    ·rw [HO.out,HC.out,HSk.out];omega
    ·refine lZ rr (int_eq ?_);rw [HO.out,HD.out,HSk.out];omega
   case measure=>simp [intOf];omega
  ·obtain rfl:k=m:=by omega
   have HSk:=hid (show s k=0 by rw [Hs.out];show nth ys k*2 ^ n=0;rw [eV ys (h:=(by rw [Hm.out];omega))];simp);generalize chC 4294967296 s 0 k=cr at *
   clear hcl hp;go_wp2
   go_end0
   refine ⟨Z,Fin.out.1,Fin.out.2.1,Fin.out.2.2,rfl,lZ rr (int_eq ?_),bf gr (cI _ _ _ _),by simpa using Sr.out⟩;rw [HD.out,HSk.out];omega
theorem Vp  (h:aN w e g N (lay c (off+(k+1)) n .u32 (Z.drop (k+1)))) (hv:v = .int .u32 (nth Z k)) (hm:n+k+1=m:=by omega) :
  aN (w.setCell ⟨g,off+k,none⟩ v) e g N (lay c (off+k) (m-k) .u32 (Z.drop k)):=by
 refine (h.set (off+k) v).congr λj _=>?_;subst hv;by_cases h1:j=off+k
 ·subst h1;rw [kj];have:=jc c (off:=off+k) (n:=m-k) (j:=0) .u32 (Z.drop k);rw [Nat.add_zero,jV,Nat.add_zero] at this;exact this.symm
 ·rw [upd_ne _ _ h1];by_cases h2:off+(k+1)<=j∧j<off+(k+1)+n
  ·obtain ⟨i,rfl⟩:∃i,j=off+(k+1)+i:=⟨j-(off+(k+1)),by omega⟩;rw [jc _ _ _,jV];have:=jc c (off:=off+k) (n:=m-k) (j:=1+i) .u32 (Z.drop k);rw [jV] at this;rw [show off+(k+1)+i=off+k+(1+i) by omega,this];congr 3;omega
  ·rw [eG _ _ _,eG _ _ _]
set_option maxHeartbeats 1000000 in
theorem Vq (g off N cap n m:Nat) (vy:Value) (c:Nat->Value) (ys:List Nat) (w:World) (hr:aN w 106 g N c) (hn:n<32)
  (hc:∀j,j<m->∃x:Nat,c (off+j) = .int .u32 x) (hy:Sl w .u32 vy ys) (hne:ys ≠ []->vy.ownBlock≠some g) (hm:ys.length=m) (ay:All 4294967296 ys) (hN:off+m<=N:=by omega) :
  Calls prog 184 #[.slice (some ⟨g,off,none⟩) m cap,vy,.int .i64 n] w (Wrote w g N off m c (λZ=>val 4294967296 Z=val 4294967296 ys / 2 ^ n)):=by
 obtain ⟨p,dw,rfl,h1,h2,h3⟩:=hy;have hp:=rY hn;have hp0:0<2 ^ n:=Nat.pow_pos (by omega);have fS:=cm (by omega) ay;have hdvd:4294967296 % 2 ^ n=0:=by rw [show 4294967296=2 ^ n*2 ^ (32-n) by rw [<- Nat.pow_add,show n+(32-n)=32 by omega]];exact Nat.mul_mod_right _ _
 have hdig:∀j,j<m->(nth ys (j+1)*4294967296+nth ys j) / 2 ^ n % 4294967296=nth (an 4294967296 (val 4294967296 ys / 2 ^ n)) j:=λj hj=>by
  rcases Vr hp0 hdvd ys (i:=j) with h | h
  ·exact h
  ·exact absurd ay h
 obtain ⟨Z,hZ⟩:∃Z,pre (nth (an 4294967296 (val 4294967296 ys / 2 ^ n))) m=Z:=⟨_,rfl⟩;have hZn:∀j,j<m->nth Z j=(nth ys (j+1)*4294967296+nth ys j) / 2 ^ n % 4294967296:=λj hj=>by rw [hdig j hj,<- hZ];exact fR _ hj
 have fin:Z.length=m∧All 4294967296 Z∧val 4294967296 Z=val 4294967296 ys / 2 ^ n:=by refine ⟨by rw [<- hZ,dW],by rw [<- hZ];exact gJ λj _=>cm (by omega) (fg (by omega) _) j,?_⟩;rw [<- hZ,fi,dj (by omega)];refine iq (by omega) m _ ?_;have:=ff ay;rw [hm] at this;exact Nat.lt_of_le_of_lt (Nat.div_le_self _ _) this
 have h63:m<=9223372036854775807:=by omega
 rw [hm] at h1 ⊢;have Hm:=hid hm;have HZn:=hid hZn;have Fin:=hid fin;have H3:=hid h3;have Hne:=hid hne;have Hc:=hid hc;have ju:=hid fS;clear hm hZ hZn fin h3 hne hc fS ay hp hp0 hdig hdvd;go_enter func184,ntmps184
 go_wp2_with fail
 go_loopw [6,7] (λcv i wr=>∃(k av:Nat) (q:Int),k<=m∧i = .int .i64 q∧q=(k:Int)-1∧cv = .int .u64 av∧Hid (av=nth ys (k+1)*4294967296+nth ys k)∧aN wr 106 g N (lay c (off+k) (m-k) .u32 (Z.drop k))∧w.grownBy wr (some g)∧wr.heap.size=w.heap.size) (λ_ i _=>(intOf i+1).toNat)
 case atStart=>
  refine ⟨m,0,_,by omega,rfl,rfl,rfl,?_,?_,bH _ _,rfl⟩
  ·show 0=_;rw [eV ys (h:=(by rw [Hm.out];omega)),eV ys (h:=(by rw [Hm.out];omega))]
  ·rw [Nat.sub_self,jC];exact hr
 case round=>
  obtain ⟨k,av,q,hk,rfl,hq,rfl,hav,rr,gr,sr⟩:=hrel;have Sr:=hid sr;clear sr;cases k with
  | zero=>
   obtain rfl:q = -1:=by omega
   clear hq;go_wp2
   go_end0
   refine ⟨Z,Fin.out.1,Fin.out.2.1,Fin.out.2.2,rfl,?_,gr,Sr.out⟩;simpa using rr
  | succ k=>
   obtain rfl:q=(k:Int):=by omega
   clear hq;rcases H3.out with h3 | ⟨b,ic,rfl,hbl,hy⟩
   ·have:=Hm.out;rw [h3] at this;simp at this;omega
   have c2:wr.cell? ⟨b,ic+k,none⟩=some (.int .u32 (nth ys k)):=by rw [World.cell?_of_block (w:=w) (gr.block b hbl (by simpa [Value.ownBlock] using Hne.out (λh=>by have:=Hm.out;rw [h] at this;simp at this;omega))),hy k (by rw [Hm.out];omega)]
   clear hy;have f1:wr.frozen? ⟨g,off+k,none⟩=false:=rr.frozen _;obtain ⟨x0,hx0⟩:=Hc.out k (by omega);have c1:wr.cell? ⟨g,off+k,none⟩=some (.int .u32 x0):=by rw [rr.cell (by omega),eG _ _ _,hx0]
   clear hx0;have b2:nth ys k<4294967296:=ju.out k;have b3:nth ys (k+1)<4294967296:=ju.out (k+1);have b4:nth ys (k+1+1)<4294967296:=ju.out (k+1+1);have b5:av<18446744073709551616:=by have:=hav.out;omega
   have i1:(k:Int)<(m:Int):=by omega
   have HD:=hid (show nth Z k=(nth ys (k+1)*4294967296+nth ys k) / 2 ^ n % 4294967296 from HZn.out k (by omega));have HO:=hid (vo av (nth ys k) b2);have HA:Hid (av % 4294967296=nth ys (k+1)):=by show av % 4294967296=_;have:=hav.out;omega
   clear b4 b5;go_wp2
   go_roundw
   case rel=>
    refine ⟨k,(av % 4294967296)*4294967296+nth ys k,_,by omega,rfl,rfl,int_eq HO.out,?_,?_,bf gr (cI _ _ _ _),by simpa using Sr.out⟩
    ·show _=_;rw [HA.out]
    ·refine Vp rr (int_eq ?_);rw [HO.out,HD.out,HA.out,Mf];generalize (nth ys (k+1)*4294967296+nth ys k) / 2 ^ n=z;omega
   case measure=>simp [intOf]
theorem Sl.drop {k:IntKind}{b:Nat} (h:Sl w k (.slice (some ⟨b,off,none⟩) m cap) xs) (n:Nat) (hn:n<xs.length):Sl w k (.slice (some ⟨b,off+n,none⟩) (m-n) (cap-n)) (xs.drop n):=by
 obtain ⟨p',cap',e,h1,h2,h3⟩:=h;simp only [Value.slice.injEq] at e;obtain ⟨rfl,rfl,rfl⟩:=e;have hl:(xs.drop n).length=xs.length-n:=List.length_drop ..;refine ⟨_,cap-n,by rw [hl],by omega,by omega,?_⟩;rcases h3 with rfl | ⟨b',off',e,h4,h5⟩
 ·simp at hn
 ·simp only [Option.some.injEq,Addr.mk.injEq,and_true] at e;obtain ⟨rfl,rfl⟩:=e;refine .inr ⟨b,off+n,rfl,h4,λj hj=>?_⟩;rw [hl] at hj;rw [jV,Nat.add_assoc];exact h5 (n+j) (by omega)
theorem Vs  (hx:Sl w .u32 v xs) (ax:All 4294967296 xs) (hlen:xs.length<=8796093022208:=by omega) :
  Calls prog 162 #[v] w λe w'=>e = .returned (.int .i64 ((an 2 (val 4294967296 xs)).length:Nat))∧w=w':=by
 obtain ⟨p,cap,rfl,h1,h2,hp⟩:=id hx;have Hx:=hid hx;have Ht:=hid hx.trim;have At:=hid (show All 4294967296 (trim xs) from ax.take _);have Vx:=hid (show val 4294967296 xs=val 4294967296 (trim xs) from (gZ xs).symm);have Td:=hid (eC ax);have tl:(trim xs).length<=8796093022208:=by have:=gO xs xs.length;rw [eX];omega
 clear hx ax;generalize hq:trim xs=a at Ht At Vx tl Td;have Hq:=hid hq;clear hq;by_cases h0:a = []
 ·subst h0;go_enter func162,ntmps162
  go_wp2_with fail
  refine (fh Hx.out Hq.out).mono ?_;rintro e w' ⟨rfl,rfl⟩;go_wp2_with fail
  go_ret
  exact ⟨by rw [Vx.out,val,jW];rfl,rfl⟩
 ·obtain ⟨k,hk⟩:∃k,a.length=k+1:=⟨a.length-1,by have:=List.length_pos_iff.2 h0;omega⟩;obtain ⟨p',cap',e',g1,g2,g3⟩:=id Ht.out;simp only [Value.slice.injEq,true_and] at e';obtain ⟨rfl,rfl⟩:=e';rcases g3 with g3 | ⟨b,off,rfl,hbl,hy⟩
  ·exact absurd g3 h0
  have c1:w.cell? ⟨b,off+k,none⟩=some (.int .u32 (nth a k)):=hy k (by omega);have b1:=At.out.nth (j:=k) (by omega);have Hn0:=hid (show nth a k≠0 by
   have t:=tv (b:=4294967296) (by omega) (val 4294967296 xs);rw [<- Td.out] at t;rcases t with t | t
   ·exact absurd t h0
   ·rw [hk] at t;exact t)
  have Hk:=hid hk;rw [hk] at tl;have He:=hid h0;clear hy h0 hk g1;go_enter func162,ntmps162
  go_wp2_with fail
  refine (fh Hx.out Hq.out).mono ?_;rintro e w' ⟨rfl,rfl⟩;rw [Hk.out];go_wp2_with fail
  refine (AA _ _ (by omega) (by omega)).mono ?_;rintro e w' ⟨rfl,rfl⟩;have hbl:=Lib.bitLen_le (nth a k) 32 (by omega) (by omega);have hb0:=AD (nth a k) (by have:=Hn0.out;omega);have hb1:=AC (nth a k);rw [Int.toNat_natCast];generalize Lib.bitLen (nth a k)=l at *
  go_wp2_with fail
  go_ret
  refine ⟨gT ?_,rfl⟩;have hv:val 4294967296 a=val 4294967296 (a.take k)+4294967296 ^ k*nth a k:=by
   have e1:=jX 4294967296 a (k:=k) (h:=(by rw [Hk.out];omega))
   rwa [<- Hk.out,List.take_length] at e1
  have hlt:=ff (At.out.take k);rw [List.length_take,Nat.min_eq_left (by rw [Hk.out];omega)] at hlt;have hp:(4294967296:Nat) ^ k=2 ^ (32*k):=by rw [Nat.pow_mul]
  obtain ⟨m,rfl⟩:∃m,l=m+1:=⟨l-1,by omega⟩;have hd:=Vt (b:=2) (n:=val 4294967296 a) (k:=32*k+m) (by
   rw [Nat.pow_add,<- hp,hv];have:=Nat.mul_le_mul_left (4294967296 ^ k) hb0.1;rw [Nat.add_sub_cancel] at this;omega) (by
   rw [Nat.add_assoc,Nat.pow_add,<- hp,hv];have:=Nat.mul_le_mul_left (4294967296 ^ k) (show nth a k+1<=2 ^ (m+1) from hb1);rw [Nat.mul_add] at this;omega)
  rw [Vx.out,hd];omega
def Vu (w:World) (g N off n:Nat) (c:Nat->Value) (P:List Nat->Nat->Prop) (en:Ending) (w':World):Prop:=
 ∃(Z:List Nat) (cy:Nat),Z.length=n∧All 4294967296 Z∧cy<4294967296∧P Z cy∧en = .returned (.int .u32 cy)∧aN w' 106 g N (lay c off n .u32 Z)∧w.grownBy w' (some g)∧w'.heap.size=w.heap.size
set_option maxHeartbeats 1000000 in
theorem Vv (g off N cap n x:Nat) (vy:Value) (c:Nat->Value) (os ys:List Nat) (w:World) (hr:aN w 106 g N c) (hN:off+n<=N) (hx:x<4294967296)
  (hc:∀j,j<n->c (off+j) = .int .u32 (nth os j)) (ho:os.length=n) (ao:All 4294967296 os)
  (hy:Sl w .u32 vy ys) (hne:ys ≠ []->vy.ownBlock≠some g) (hm:ys.length=n) (ay:All 4294967296 ys) :
  Calls prog 166 #[.slice (some ⟨g,off,none⟩) n cap,vy,.int .u32 x] w
   (Vu w g N off n c (λZ cy=>val 4294967296 Z+4294967296 ^ n*cy=x*val 4294967296 ys+val 4294967296 os)):=by
 obtain ⟨p,dw,rfl,h1,h2,h3⟩:=hy;have fS:=cm (by omega) ay;have xT:=cm (by omega) ao;obtain ⟨s,hs⟩:∃s:Nat->Nat,s=λj=>nth ys j*x+nth os j:=⟨_,rfl⟩;have kO:∀k,chC 4294967296 s 0 k<4294967296:=λk=>by refine xP (λj=>?_) k;rw [hs];show nth ys j*x+nth os j+4294967296<=_;have a:=fS j;have b:=xT j;have:=vt a hx;omega
 obtain ⟨Z,hZ⟩:∃Z,pre (iu 4294967296 s 0) n=Z:=⟨_,rfl⟩;have hZn:∀j,j<n->nth Z j=iu 4294967296 s 0 j:=λj hj=>by rw [<- hZ];exact fR _ (by omega)
 have fin:Z.length=n∧All 4294967296 Z∧val 4294967296 Z+4294967296 ^ n*chC 4294967296 s 0 n=x*val 4294967296 ys+val 4294967296 os:=by refine ⟨by rw [<- hZ,dW],by rw [<- hZ];exact gJ λj _=>xQ _ _ _,?_⟩;have e:=xR 4294967296 s 0 n;rw [hZ,hs,val_add 4294967296 (λj=>nth ys j*x) (nth os),val_mul,fi _ ys (by omega),fi _ os (by omega),Nat.mul_comm _ x] at e;rw [hs];omega
 rw [hm] at h1 ⊢;have Hm:=hid hm;have HZn:=hid hZn;have Fin:=hid fin;have H3:=hid h3;have qV:=hid kO;have Hs:=hid hs;have Hne:=hid hne;have Hc:=hid hc;have ju:=hid fS;have Vw:=hid xT;clear hm hZ hZn fin h3 kO hs hne hc fS ay ao xT ho;go_enter func166,ntmps166
 go_wp2_with fail
 go_loopw [7,12] (λcv i wr=>∃k:Nat,k<=n∧i = .int .i64 k∧cv = .int .u64 (chC 4294967296 s 0 k)∧aN wr 106 g N (lay c off k .u32 Z)∧w.grownBy wr (some g)∧wr.heap.size=w.heap.size) (λ_ i _=>(n-(intOf i).toNat))
 case atStart=>exact ⟨0,by omega,rfl,rfl,by rw [jC];exact hr,bH _ _,rfl⟩
 case round=>
  obtain ⟨k,hk,rfl,rfl,rr,gr,sr⟩:=hrel;have Sr:=hid sr;clear sr;have hcl:=qV.out k;by_cases hlt:k<n
  ·have f1:wr.frozen? ⟨g,off+k,none⟩=false:=rr.frozen _;have c1:wr.cell? ⟨g,off+k,none⟩=some (.int .u32 (nth os k)):=by
    rw [rr.cell (by omega),eG _ _ _,Hc.out k hlt]
   have HC:=hid (show chC 4294967296 s 0 (k+1)=(chC 4294967296 s 0 k+s k) / 4294967296 from rfl);have HD:=hid (show nth Z k=(chC 4294967296 s 0 k+s k) % 4294967296 from HZn.out k (by omega));rcases H3.out with h3 | ⟨b,ic,rfl,hbl,hy⟩
   ·have:=Hm.out;rw [h3] at this;simp at this;omega
   have c2:wr.cell? ⟨b,ic+k,none⟩=some (.int .u32 (nth ys k)):=by rw [World.cell?_of_block (w:=w) (gr.block b hbl (by simpa [Value.ownBlock] using Hne.out (λh=>by have:=Hm.out;rw [h] at this;simp at this;omega))),hy k (by rw [Hm.out];omega)]
   clear hy;have b2:nth ys k<4294967296:=ju.out k;have b3:nth os k<4294967296:=Vw.out k;have i1:(k:Int)<(n:Int):=by omega
   have m1:=vu hx b2;have m2:=vw x (nth ys k);have HSk:=hid (show (s k:Int)=(x:Int)*(nth ys k:Int)+(nth os k:Int) by rw [Hs.out];show ((nth ys k*x+nth os k:Nat):Int)=_;push_cast;rw [Int.mul_comm]);generalize chC 4294967296 s 0 k=cr at *
   go_wp2
   go_roundw
   case rel=>
    refine ⟨k+1,by omega,by go_num,int_eq ?_,?_,bf gr (cI _ _ _ _),by simpa using Sr.out⟩
    ·have:=HSk.out;rw [HC.out];omega
    ·refine lZ rr (int_eq ?_);have:=HSk.out;rw [HD.out];omega
   case measure=>simp [intOf];omega
  ·obtain rfl:k=n:=by omega
   have Fe:=Fin.out;generalize chC 4294967296 s 0 k=cr at *
   have FE:=hid Fe;clear Fe;go_wp2
   go_ret
   exact ⟨Z,cr,FE.out.1,FE.out.2.1,hcl,FE.out.2.2,gT (by omega),rr,gr,Sr.out⟩
theorem Vz {Y:List Nat}{cy:Nat}{wv:Value} (hY:Y.length=N) (hk:k+n<N) (hZ:Z.length=n)
  (h:aN w e g N (lay (λj=>.int .u32 (nth Y j)) k n .u32 Z)) (hw:w'=w.setCell ⟨g,k+n,none⟩ wv) (hv:wv = .int .u32 cy) :
  aN w' e g N (λj=>.int .u32 (nth (patch Y Z k n cy) j)):=by
 subst hw;subst hv;refine (h.set (k+n) _).congr λj hj=>?_;by_cases h1:j=k+n
 ·subst h1;rw [kj,VC hZ]
 ·rw [upd_ne _ _ h1];by_cases h2:j<k
  ·rw [eG _ _ _,VD h2]
  ·by_cases h3:j<k+n
   ·obtain ⟨i,rfl⟩:∃i,j=k+i:=⟨j-k,by omega⟩;rw [jc _ _ _,VE hZ]
   ·rw [eG _ _ _,VF hZ]
set_option maxHeartbeats 1000000 in
theorem VG  (hx:Sl w .u32 (.slice p xs.length fL) xs) (hy:Sl w .u32 (.slice q ys.length dw) ys)
  (ha:trim xs=a) (hb:trim ys=b) (ha0:a ≠ []) (hb0:b ≠ []) (ax:All 4294967296 xs) (ay:All 4294967296 ys) (hm:a.length+b.length<=8796093022208:=by omega) :
  Calls prog 145 #[.slice p xs.length fL,.slice q ys.length dw] w (Made 106 .u32 w (an 4294967296 (val 4294967296 a*val 4294967296 b))):=by
 obtain ⟨i0,hi,hz0,hz1,hz2⟩:=info_parts Tryz.infoU;have Hta:=hid (show Sl w .u32 (.slice p a.length fL) a from ha▸hx.trim);have Htb:=hid (show Sl w .u32 (.slice q b.length dw) b from hb▸hy.trim);have Aa:=hid (show All 4294967296 a from ha▸ax.take _);have Ab:=hid (show All 4294967296 b from hb▸ay.take _);have la:a.length≠0:=λh=>ha0 (List.eq_nil_of_length_eq_zero h);have lb:b.length≠0:=λh=>hb0 (List.eq_nil_of_length_eq_zero h);have tb:(((a.length:Nat):Int) == 0)=false:=by rw [beq_eq_false_iff_ne];omega
 have Wr:(((b.length:Nat):Int) == 0)=false:=by rw [beq_eq_false_iff_ne];omega
 have Hx:=hid hx;have Hy:=hid hy;have Ha:=hid ha;have Hb:=hid hb;have Ha0:=hid ha0;have Hb0:=hid hb0;clear hx hy ha hb ha0 hb0 ax ay;go_enter func145,ntmps145
 go_wp2_with fail
 refine (fh Hx.out Ha.out).mono ?_;rintro e w' ⟨rfl,rfl⟩;go_wp2_with fail
 refine (fh Hy.out Hb.out).mono ?_;rintro e w' ⟨rfl,rfl⟩;go_wp2_with (at_make;refine jd rfl _ _ 26 rfl 106 i0 (.int .u32 0) underlying26 hi hz0 hz1 rfl _ _ _ _ (a.length+b.length) (a.length+b.length) rfl rfl (Nat.le_refl _) ?_;intro w1 r1 g1 s1;have R1:=hid r1;have G1:=hid g1;clear r1 g1)
 go_loopw [28] (λi wr=>∃(k:Nat) (Y:List Nat),k<=a.length∧i = .int .i64 k∧w.grownBy wr none∧w.heap.size<wr.heap.size∧Y.length=a.length+b.length∧All 4294967296 Y∧val 4294967296 Y=val 4294967296 (a.take k)*val 4294967296 b ∧
   val 4294967296 (Y.drop (k+b.length))=0∧aN wr 106 w.heap.size (a.length+b.length) (λj=>.int .u32 (nth Y j))) (λi _=>(a.length-(intOf i).toNat))
 case atStart=>
  refine ⟨0,List.replicate (a.length+b.length) 0,by omega,rfl,G1.out,by omega,by simp,All.no (by omega) _,by rw [lW];simp [val],?_,R1.out.congr λj hj=>?_⟩
  ·rw [List.drop_replicate,lW]
  ·simp [nth,hj]
 case round=>
  obtain ⟨k,Y,hk,rfl,gr,sr,yl,ya,yv,yz,rr⟩:=hrel;have Yl:=hid yl;have Ya:=hid ya;have Yv:=hid yv;have Yz:=hid yz;have Gr:=hid gr;by_cases hlt:k<a.length
  ·obtain ⟨p',cap',e',h1,h2,h3⟩:=id Hta.out;have hpp:p'=p:=by cases e';rfl
   subst hpp;rcases h3 with h3 | ⟨bb,off,rfl,hbl,hyy⟩
   ·exact absurd h3 Ha0.out
   have c1:wr.cell? ⟨bb,off+k,none⟩=some (.int .u32 (nth a k)):=by rw [World.cell?_of_block (w:=w) (gr.block bb hbl (by simp)),hyy k hlt]
   have b1:nth a k<4294967296:=Aa.out.nth hlt;have i1:(k:Int)<(a.length:Int):=by omega
   have i2:(k:Int)<=(k:Int)+(b.length:Int):=by omega
   have i3:k<=k+b.length:=by omega
   have i4:(k:Int)+(b.length:Int)<=(a.length:Int)+(b.length:Int):=by omega
   have i5:k+b.length<=a.length+b.length:=by omega
   have VH:k+b.length<a.length+b.length:=by omega
   have i6:(k:Int)+(b.length:Int)<(a.length:Int)+(b.length:Int):=by omega
   have hk0:¬a.length+b.length=k:=by omega
   have Rr:=hid rr;clear hyy e' h1 yl ya yv yz gr rr;go_wp2_with fail
   refine (Vv w.heap.size k (a.length+b.length) (a.length+b.length-k) b.length (nth a k) _ _ ((Y.drop k).take b.length) b wr Rr.out i5 b1 ?_ ?_ ((Ya.out.drop _).take _) (Htb.out.grown Gr.out (.inl rfl)) ?_ rfl Ab.out).mono ?_
   ·intro j hj;rw [fZ _ hj,jV]
   ·rw [List.length_take,List.length_drop,Yl.out];omega
   ·intro h e;have:=Htb.out.block_lt h _ e;omega
   ·intro e w2 hwc;obtain ⟨Z,cy,z1,z2,z3,z4,rfl,gA,iU,FV⟩:=hwc;have c2:w2.cell? ⟨w.heap.size,k+b.length,none⟩=some (.int .u32 (nth Y (k+b.length))):=by
     rw [gA.cell (by omega),eG _ _ _]
    have f2:w2.frozen? ⟨w.heap.size,k+b.length,none⟩=false:=gA.frozen _;have Z1:=hid z1;have Z4:=hid z4;have Pv:=hid (VI (T:=nth a k*val 4294967296 b) (by rw [Yl.out];omega) Yz.out z1);have VJ:=hid (di Gr.out iU (Nat.le_refl _));have Rr2:=hid gA;have S2:=hid FV;clear z1 z4 iU gA FV;go_wp2_with fail
    go_roundw
    case rel=>
     refine ⟨k+1,patch Y Z k b.length cy,by omega,by go_num,di VJ.out (cI _ _ _ _) (Nat.le_refl _),by simp;rw [S2.out];exact sr,?_,VK Ya.out z2 z3,?_,Pv.out.2,Vz Yl.out VH Z1.out Rr2.out rfl rfl⟩
     ·rw [VL (by rw [Yl.out];omega) Z1.out,Yl.out]
     ·rw [Pv.out.1,Yv.out,jX _ _ (h:=hlt),Nat.add_mul,Nat.mul_assoc]
    case measure=>simp [intOf];omega
  ·obtain rfl:k=a.length:=by omega
   have ho:Own wr 106 .u32 w.heap.size (.slice (some ⟨w.heap.size,0,none⟩) (a.length+b.length) (a.length+b.length)) Y:=
    .inr ⟨w.heap.size,_,_,by rw [yl],Nat.le_refl _,rr,by omega,by omega,λj _=>rfl⟩
   have Ho:=hid ho;clear ho yl ya yv yz gr rr;go_wp2_with fail
   refine (jq _ _ _ Y _ Ho.out.sl).mono ?_;rintro e w'' ⟨rfl,rfl⟩;go_wp2_with fail
   go_ret
   refine ⟨_,rfl,?_,Gr.out⟩;have hv:=Yv.out;rw [List.take_length] at hv;rw [<- hv,<- eC Ya.out];exact Ho.out.trim
theorem VM  (hx:Sl w .u32 (.slice p xs.length fL) xs) (hy:Sl w .u32 (.slice q ys.length dw) ys)
  (ha:trim xs = []) (hb:trim ys=b) :
  Calls prog 145 #[.slice p xs.length fL,.slice q ys.length dw] w (Made 106 .u32 w []):=by
 have Hx:=hid hx;have Hy:=hid hy;have Ha:=hid ha;have Hb:=hid hb;clear hx hy ha hb;go_enter func145,ntmps145
 go_wp2_with fail
 refine (fh Hx.out Ha.out).mono ?_;rintro e w' ⟨rfl,rfl⟩;go_wp2_with fail
 refine (fh Hy.out Hb.out).mono ?_;rintro e w' ⟨rfl,rfl⟩;go_wp2_with fail
 go_ret
 exact ⟨_,rfl,Own.nil _ _ _ _,bH _ _⟩
theorem VN  (hx:Sl w .u32 (.slice p xs.length fL) xs) (hy:Sl w .u32 (.slice q ys.length dw) ys)
  (ha:trim xs=a) (hb:trim ys = []) (ha0:a ≠ []) :
  Calls prog 145 #[.slice p xs.length fL,.slice q ys.length dw] w (Made 106 .u32 w []):=by
 have la:a.length≠0:=λh=>ha0 (List.eq_nil_of_length_eq_zero h);have tb:(((a.length:Nat):Int) == 0)=false:=by rw [beq_eq_false_iff_ne];omega
 have Hx:=hid hx;have Hy:=hid hy;have Ha:=hid ha;have Hb:=hid hb;clear hx hy ha hb ha0;go_enter func145,ntmps145
 go_wp2_with fail
 refine (fh Hx.out Ha.out).mono ?_;rintro e w' ⟨rfl,rfl⟩;go_wp2_with fail
 refine (fh Hy.out Hb.out).mono ?_;rintro e w' ⟨rfl,rfl⟩;go_wp2_with fail
 go_ret
 exact ⟨_,rfl,Own.nil _ _ _ _,bH _ _⟩
theorem VO  (hx:Sl w .u32 v xs) (hy:Sl w .u32 u ys) (ax:All 4294967296 xs) (ay:All 4294967296 ys) (lx:xs.length<=4398046511104:=by omega) (ly:ys.length<=4398046511104:=by omega) :
  Calls prog 145 #[v,u] w (Made 106 .u32 w (an 4294967296 (val 4294967296 xs*val 4294967296 ys))):=by
 obtain ⟨p,cap,rfl,-⟩:=id hx;obtain ⟨q,dw,rfl,-⟩:=id hy;have tx:(trim xs).length<=xs.length:=by rw [eX];exact gO _ _
 have ty:(trim ys).length<=ys.length:=by rw [eX];exact gO _ _
 rw [<- gZ (b:=4294967296) xs,<- gZ (b:=4294967296) ys];by_cases ha:trim xs = []
 ·rw [ha,val,Nat.zero_mul];exact VM hx hy ha rfl
 ·by_cases hb:trim ys = []
  ·rw [hb,val,Nat.mul_zero];exact VN hx hy rfl hb ha
  ·exact VG hx hy rfl rfl ha hb ax ay
def FW (w:World) (q r:Nat) (en:Ending) (w':World):Prop:=
 ∃v u,en = .returned (.tuple #[v,u])∧Own w' 106 .u32 w.heap.size v (an 4294967296 q)∧Own w' 106 .u32 w.heap.size u (an 4294967296 r)∧v.ownBlock≠u.ownBlock∧w.grownBy w' none
set_option maxHeartbeats 1000000 in
theorem VP  (d:Nat) (hx:Sl w .u32 v xs) (ax:All 4294967296 xs) (hd0:0<d) (hd:d<4294967296) (hlen:xs.length<=8796093022208) :
  Calls prog 172 #[v,.int .u32 d] w (FW w (val 4294967296 xs / d) (val 4294967296 xs % d)):=by
 obtain ⟨p,cap,rfl,h1,h2,h3⟩:=id hx;obtain ⟨i0,hi,hz0,hz1,hz2⟩:=info_parts Tryz.infoU;have Hx:=hid hx;have Ax:=hid ax;have H3:=hid h3;clear hx ax h3;obtain ⟨n,hn⟩:∃n,xs.length=n:=⟨_,rfl⟩;rw [hn] at hlen h1 ⊢;have Hn:=hid hn;clear hn;go_enter func172,ntmps172
 go_wp2_with (at_make;refine jd rfl _ _ 26 rfl 106 i0 (.int .u32 0) underlying26 hi hz0 hz1 rfl _ _ _ _ n n rfl rfl (Nat.le_refl _) ?_;intro w1 r1 g1 s1;have R1:=hid r1;have G1:=hid g1;clear r1 g1)
 go_loopw [6,7] (λcv i wr=>∃(k r:Nat) (q:Int) (Z:List Nat),k<=n∧i = .int .i64 q∧q=(k:Int)-1∧cv = .int .u32 r∧r<d∧Z.length=n∧All 4294967296 Z ∧
   val 4294967296 (xs.drop k)=val 4294967296 (Z.drop k)*d+r∧aN wr 106 w.heap.size n (λj=>.int .u32 (nth Z j))∧w.grownBy wr none∧w.heap.size<wr.heap.size) (λ_ i _=>(intOf i+1).toNat)
 case atStart=>
  refine ⟨n,0,_,List.replicate n 0,by omega,rfl,rfl,rfl,hd0,by simp,All.no (by omega) _,?_,R1.out.congr λj hj=>by simp [nth,hj],G1.out,by omega⟩;rw [List.drop_of_length_le (by rw [Hn.out];omega),List.drop_replicate,lW];simp [val]
 case round=>
  obtain ⟨k,r,q,Z,hk,rfl,hq,rfl,hr,zl,za,hv,rr,gr,sr⟩:=hrel;have Zl:=hid zl;have Za:=hid za;have Hv:=hid hv;have Gr:=hid gr;cases k with
  | zero=>
   obtain rfl:q = -1:=by omega
   have ho:Own wr 106 .u32 w.heap.size (.slice (some ⟨w.heap.size,0,none⟩) n n) Z:=
    .inr ⟨w.heap.size,_,_,by rw [zl],Nat.le_refl _,rr,by omega,by omega,λj _=>rfl⟩
   have Ho:=hid ho;clear ho zl za hv gr rr hq;go_wp2_with fail
   refine (jq _ _ _ Z _ Ho.out.sl).mono ?_;rintro e w'' ⟨rfl,rfl⟩;go_wp2_with fail
   have hro:Own (wr.alloc (.cells #[.int .u32 r] 106)) 106 .u32 wr.heap.size (.slice (some ⟨wr.heap.size,0,none⟩) 1 1) [r]:=by
    refine .inr ⟨wr.heap.size,1,λ_=>.int .u32 r,rfl,Nat.le_refl _,?_,Nat.le_refl _,by omega,λj hj=>?_⟩
    ·exact aN.made wr #[.int .u32 r] 106 _ (λj hj=>by
      have:j=0:=by simpa using hj
      subst this;rfl)
    ·have:j=0:=by simpa using hj
     subst this;rfl
   have FX:=hid hro;clear hro;refine (jq _ _ _ [r] _ FX.out.sl).mono ?_;rintro e w'' ⟨rfl,rfl⟩;go_wp2_with fail
   go_ret2
   have hv:=Hv.out;simp only [List.drop_zero] at hv;have e1:val 4294967296 xs / d=val 4294967296 Z:=by rw [hv,Nat.mul_comm,Nat.mul_add_div hd0,Nat.div_eq_of_lt hr];omega
   have e2:val 4294967296 xs % d=r:=by rw [hv,Nat.mul_comm,Nat.mul_add_mod,Nat.mod_eq_of_lt hr]
   have e3:val 4294967296 [r]=r:=by simp [val]
   refine ⟨_,_,rfl,?_,?_,?_,bf Gr.out (bn _ _ _)⟩
   ·rw [e1,<- eC Za.out];exact Ho.out.trim.grown (bn _ _ none) (.inl rfl)
   ·rw [e2,<- e3,<- eC (b:=4294967296) (All.cons (by omega) (All.nil _))];exact FX.out.trim.mono (by omega)
   ·simp [Value.ownBlock];omega
  | succ k=>
   obtain rfl:q=(k:Int):=by omega
   rcases H3.out with h3 | ⟨b,off,rfl,hbl,hy⟩
   ·have:=Hn.out;rw [h3] at this;simp at this;omega
   have c1:wr.cell? ⟨b,off+k,none⟩=some (.int .u32 (nth xs k)):=by rw [World.cell?_of_block (w:=w) (gr.block b hbl (by simp)),hy k (by rw [Hn.out];omega)]
   have b1:nth xs k<4294967296:=Ax.out.nth (by rw [Hn.out];omega);have f1:wr.frozen? ⟨w.heap.size,k,none⟩=false:=rr.frozen _;have c2:wr.cell? ⟨w.heap.size,k,none⟩=some (.int .u32 (nth Z k)):=rr.cell (by omega);have i1:(k:Int)<(n:Int):=by omega
   have Rr:=hid rr;clear hy zl za hv gr rr hq;go_wp2_with fail
   refine (Mk r (nth xs k) d _ hr b1 hd).mono ?_;rintro e w' ⟨rfl,dn,rfl⟩;have hqd:(r*4294967296+nth xs k) / d<4294967296:=by rw [Nat.div_lt_iff_lt_mul hd0];omega
   have hrd:(r*4294967296+nth xs k) % d<d:=Nat.mod_lt _ hd0;have hqr:=Nat.div_add_mod (r*4294967296+nth xs k) d;generalize (r*4294967296+nth xs k) / d=qd at *
   generalize (r*4294967296+nth xs k) % d=rd at *
   have Hqr:=hid hqr;clear hqr;go_wp2_with fail
   go_roundw
   case rel=>
    refine ⟨k,rd,_,Z.set k qd,by omega,rfl,rfl,rfl,hrd,by rw [List.length_set,Zl.out],Za.out.set hqd k,?_,?_,di (bf Gr.out (jt _ _ _)) (cI _ _ _ _) (Nat.le_refl _),by simpa using sr⟩
    ·rw [qW _ (by rw [Zl.out];omega),fJ _ _ (by rw [Hn.out];omega),Hv.out];have:=Hqr.out;rw [Nat.add_mul,Nat.mul_add,Nat.mul_assoc,Nat.mul_comm qd d];omega
    ·refine (aN.set (w:=wr.drewN dn) Rr.out k _).congr λj hj=>?_;by_cases hjk:j=k
     ·subst hjk;rw [kj,pi _ (by rw [Zl.out];omega)]
     ·rw [upd_ne _ _ hjk,tR _ _ hjk]
   case measure=>simp [intOf]
def qX (w:World) (m n:Nat) (en:Ending) (w':World):Prop:=
 (n=0∧en = .returned (.tuple #[.slice none 0 0,.slice none 0 0,.int .i64 2])∧w.grownBy w' none) ∨
 (n≠0∧∃v u,en = .returned (.tuple #[v,u,.int .i64 0])∧Own w' 106 .u32 w.heap.size v (an 4294967296 (m / n))∧Own w' 106 .u32 w.heap.size u (an 4294967296 (m % n)) ∧
  (v.ownBlock=none∨v.ownBlock≠u.ownBlock)∧w.grownBy w' none)
theorem VQ  (m:Nat) (hx:Sl w .u32 (.slice p xs.length fL) xs) (hy:Sl w .u32 (.slice q ys.length dw) ys)
  (hb:trim ys = []) :
  Calls prog 159 #[.slice p xs.length fL,.slice q ys.length dw] w (qX w m 0):=by
 have Hx:=hid hx;have Hy:=hid hy;have Hb:=hid hb;clear hx hy hb;go_enter func159,ntmps159
 go_wp2_with fail
 refine (jq _ _ _ _ _ Hx.out).mono ?_;rintro e w' ⟨rfl,rfl⟩;go_wp2_with fail
 refine (fh Hy.out Hb.out).mono ?_;rintro e w' ⟨rfl,rfl⟩;go_wp2_with fail
 go_ret3
 exact .inl ⟨rfl,rfl,bH _ _⟩
theorem VR  (hx:Sl w .u32 (.slice p xs.length fL) xs) (hy:Sl w .u32 (.slice q ys.length dw) ys)
  (ha:trim xs=a) (hb:trim ys=b) (hlt:a.length<b.length) (ax:All 4294967296 xs) (ay:All 4294967296 ys) (lx:xs.length<=8796093022208) :
  Calls prog 159 #[.slice p xs.length fL,.slice q ys.length dw] w (qX w (val 4294967296 a) (val 4294967296 b)):=by
 have Hx:=hid hx;have Hy:=hid hy;have Hta:=hid (show Sl w .u32 (.slice p a.length fL) a from ha▸hx.trim);have Aa:=hid (show All 4294967296 a from ha▸ax.take _);have la:a.length<=8796093022208:=by have:=gO xs xs.length;rw [<- ha,eX];omega
 have Hv:=hid (show val 4294967296 a<val 4294967296 b by
  have e1:=eC ax;have e2:=eC ay;rw [ha] at e1;rw [hb] at e2;rw [e1,e2] at hlt;rw [<- ha,<- hb,gZ,gZ];exact pf hlt)
 have Ha:=hid ha;have Hb:=hid hb;have tb:(((b.length:Nat):Int) == 0)=false:=by rw [beq_eq_false_iff_ne];omega
 clear hx hy ha hb ax ay;go_enter func159,ntmps159
 go_wp2_with fail
 refine (fh Hx.out Ha.out).mono ?_;rintro e w' ⟨rfl,rfl⟩;go_wp2_with fail
 refine (fh Hy.out Hb.out).mono ?_;rintro e w' ⟨rfl,rfl⟩;go_wp2_with fail
 refine (tt Hta.out (by omega)).mono ?_;rintro e w1 ⟨u,rfl,ho,hg⟩;have Ho:=hid ho;have Hg:=hid hg;clear ho hg;go_wp2_with fail
 go_ret3
 have hv:=Hv.out;refine .inr ⟨by omega,_,_,rfl,?_,?_,.inl rfl,Hg.out⟩
 ·rw [Nat.div_eq_of_lt hv];exact Own.nil _ _ _ _
 ·rw [Nat.mod_eq_of_lt hv,<- eC Aa.out];exact Ho.out
theorem VS {d:Nat} (hx:Sl w .u32 (.slice p xs.length fL) xs) (hy:Sl w .u32 (.slice q ys.length dw) ys)
  (ha:trim xs=a) (hb:trim ys = [d]) (ax:All 4294967296 xs) (ay:All 4294967296 ys) (lx:xs.length<=8796093022208) (hge:1<=a.length:=by omega) :
  Calls prog 159 #[.slice p xs.length fL,.slice q ys.length dw] w (qX w (val 4294967296 a) d):=by
 have Hx:=hid hx;have Hy:=hid hy;have Hta:=hid (show Sl w .u32 (.slice p a.length fL) a from ha▸hx.trim);have Aa:=hid (show All 4294967296 a from ha▸ax.take _);have la:a.length<=8796093022208:=by have:=gO xs xs.length;rw [<- ha,eX];omega
 have Htb:Sl w .u32 (.slice q 1 dw) [d]:=by have:=hy.trim;rw [hb] at this;exact this
 have e2:=eC ay;have hd0:0<d:=by
  have t:=tv (b:=4294967296) (by omega) (val 4294967296 ys);rw [<- e2,hb] at t;rcases t with t | t
  ·cases t
  ·simp [nth] at t;omega
 have hd:d<4294967296:=by have:=fg (b:=4294967296) (by omega) (val 4294967296 ys);rw [<- e2,hb] at this;exact this.head
 obtain ⟨q',cap',e',-,-,h3⟩:=Htb;have hqq:q'=q:=by cases e';rfl
 subst hqq;rcases h3 with h3 | ⟨bb,off,rfl,hbl,hyy⟩
 ·cases h3
 have c1:=hyy 0 (by simp);rw [show nth [d] 0=d from rfl,Nat.add_zero] at c1;have Ha:=hid ha;have Hb:=hid hb;have tb:decide (a.length<1)=false:=decide_eq_false (by omega);have tb2:¬(a.length<1):=by omega
 clear hx hy ha hb ax ay hyy e' e2;go_enter func159,ntmps159
 go_wp2_with fail
 refine (fh Hx.out Ha.out).mono ?_;rintro e w' ⟨rfl,rfl⟩;go_wp2_with fail
 refine (fh Hy.out Hb.out).mono ?_;rintro e w' ⟨rfl,rfl⟩;go_wp2_with fail
 refine (VP d Hta.out Aa.out hd0 hd la).mono ?_;rintro e w1 ⟨v,u,rfl,ho,hu,hne,hg⟩;have Ho:=hid ho;have Hu:=hid hu;have Hne:=hid hne;have Hg:=hid hg;clear ho hu hne hg;go_wp2_with fail
 go_ret3
 exact .inr ⟨by omega,_,_,rfl,Ho.out,Hu.out,.inr Hne.out,Hg.out⟩
theorem VT  (hn:n<=cap) :
  Calls prog 122 #[.slice p n cap,.int .i64 k] w λe w'=>e = .returned (.slice p (min n k) cap)∧w=w':=by
 by_cases h:n<=k
 ·have h1:¬(k:Int)<(n:Int):=by omega
  have h2:¬k<n:=by omega
  have h3:(0:Int)<=(n:Int):=by omega
  go_enter func122,ntmps122
  go_wp2_with fail
  go_ret
  exact ⟨rfl,rfl⟩
 ·have h1:(k:Int)<(n:Int):=by omega
  have h2:k<n:=by omega
  have h3:k<=cap:=by omega
  go_enter func122,ntmps122
  go_wp2_with fail
  go_ret
  exact ⟨by rw [Nat.min_eq_right (by omega)];rfl,rfl⟩
theorem VU  (hx:Sl w .u32 v xs) (hy:Sl w .u32 u ys) (ax:All 4294967296 xs) (ay:All 4294967296 ys) :
  Calls prog 143 #[v,u] w λe w'=>e = .returned (.int .i64 (dq (val 4294967296 xs) (val 4294967296 ys)))∧w.grownBy w' none:=
 (xF hx hy ax ay).mono λ_ _ ⟨h,n,hw⟩=>⟨h,by rw [hw];exact jt _ _ _⟩
theorem Own.one (w:World) (k:IntKind) (e:TypeId) (x:Nat):Own (w.alloc (.cells #[.int k x] e)) e k w.heap.size (.slice (some ⟨w.heap.size,0,none⟩) 1 1) [x]:=by
 refine .inr ⟨w.heap.size,1,λ_=>.int k x,rfl,Nat.le_refl _,?_,Nat.le_refl _,by omega,λj hj=>?_⟩
 ·exact aN.made w #[.int k x] e _ (λj hj=>by
   have:j=0:=by simpa using hj
   subst this;rfl)
 ·have:j=0:=by simpa using hj
  subst this;rfl
def FA (w:World) (b:Bool) (en:Ending) (w':World):Prop:=en = .returned (.bool b)∧w.grownBy w' none
end Go.Proofs.YtlmanbjkkjfjgaaGreat
