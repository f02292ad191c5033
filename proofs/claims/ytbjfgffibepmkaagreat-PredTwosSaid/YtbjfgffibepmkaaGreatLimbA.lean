/- Package limb, the reader -/
import Derived.Test.YtbjfgffibepmkaaGreatBase
import Derived.Deep.QuietTactic
import Derived.BigQuiet
namespace Go.Proofs.YtbjfgffibepmkaaGreat
open Go.Proofs.Tryz
open Lib (hid)
open Go.RowKit
variable {B N cap fe cW g k lg m n off tot x:Nat}{p q:Option Addr}{Z a b xs ys zs:List Nat}{w w' w1 wr:World}{u v:Value}{c:Nat->Value}{e:TypeId}
def lenOf:Value->Nat | .slice _ n _=>n | _=>0
theorem Be  (h:x=0):(((x:Nat):Int) == 0)=true:=by subst h;rfl
theorem Bf  (h:¬x=0):(((x:Nat):Int) == 0)=false:=by
 rw [beq_eq_false_iff_ne];omega
set_option maxHeartbeats 400000 in
theorem MM (b off n cap:Nat) (xs:List Nat) (w:World) (hn:n<=xs.length) (hcap:n<=cap) (hm:cap<=9223372036854775807)
  (hc:∀j,j<xs.length->w.cell? ⟨b,off+j,none⟩=some (.int .u32 (nth xs j))) :
  Calls prog 156 #[.slice (some ⟨b,off,none⟩) n cap] w fun e w'=>e = .returned (.slice (some ⟨b,off,none⟩) (ei xs n) cap)∧w=w':=by
 go_enter func156,ntmps156
 go_wp2
 go_loop [0] (fun v=>∃k:Nat,k<=n∧v = .slice (some ⟨b,off,none⟩) k cap∧ei xs k=ei xs n) (fun v=>lenOf v)
 case atStart=>exact ⟨n,by omega,rfl,rfl⟩
 case round=>
  obtain ⟨k,hk,rfl,ht⟩:=hrel
  have HT:=hid ht
  clear ht
  cases k with
  | zero=>
   go_wp2
   go_ret
   exact ⟨by rw [<- HT.out];rfl,rfl⟩
  | succ k=>
   have hcell:=hc k (by omega)
   clear hc
   have hkc:k<=cap:=by omega
   by_cases h0:nth xs k=0
   ·have hb:=Be h0
    have HZ:=hid h0
    clear h0
    go_wp2
    go_round
    case rel=>exact ⟨k,by omega,rfl,by rw [<- HT.out];simp [ei,HZ.out]⟩
    case measure=>simp [lenOf]
   ·have hb:=Bf h0
    go_wp2
    go_ret
    exact ⟨by rw [<- HT.out];simp [ei,h0],rfl⟩
set_option maxHeartbeats 400000 in
theorem MN (p:Option Addr) (cap:Nat) (w:World) :
  Calls prog 156 #[.slice p 0 cap] w fun e w'=>e = .returned (.slice p 0 cap)∧w=w':=by
 go_enter func156,ntmps156
 go_wp2
 refine wp_loop_rounds 1 ?_
 rw [rounds_succ]
 go_wp2
 go_ret
 exact ⟨rfl,rfl⟩
theorem ia (p:Option Addr) (n cap:Nat) (xs:List Nat) (w:World) (h:Sl w .u32 (.slice p n cap) xs) :
  Calls prog 156 #[.slice p n cap] w fun e w'=>e = .returned (.slice p (trim xs).length cap)∧w=w':=by
 obtain ⟨p',cap',e,h1,h2,h3⟩:=h
 simp only [Value.slice.injEq] at e
 obtain ⟨rfl,rfl,rfl⟩:=e
 rw [ej]
 rcases h3 with rfl | ⟨b,off,rfl,h4,h5⟩
 ·exact MN _ _ _
 ·exact MM b off xs.length cap xs w (Nat.le_refl _) h1 h2 h5
theorem MO (w:World):Calls prog 180 #[.bool true] w fun e w'=>e = .returned (.int .i64 1)∧w=w':=by
 go_enter func180,ntmps180
 go_wp2
 go_ret
 exact ⟨rfl,rfl⟩
theorem MP (w:World):Calls prog 180 #[.bool false] w fun e w'=>e = .returned (.int .i64 (-1))∧w=w':=by
 go_enter func180,ntmps180
 go_wp2
 go_ret
 exact ⟨rfl,rfl⟩
def mj:Bool->Int | true=>1 | false=>-1
theorem Bg {p:Prop} [Decidable p] (h:p):mj (decide p)=1:=by rw [decide_eq_true h];rfl
theorem Bh {p:Prop} [Decidable p] (h:¬p):mj (decide p) = -1:=by rw [decide_eq_false h];rfl
theorem Bi (b:Bool) (w:World):Calls prog 180 #[.bool b] w fun e w'=>e = .returned (.int .i64 (mj b))∧w=w':=by
 cases b
 ·exact MP w
 ·exact MO w
theorem eD  (h:Sl w .u32 (.slice p n cap) xs) (ha:trim xs=a) :
  Calls prog 156 #[.slice p n cap] w fun e w'=>e = .returned (.slice p a.length cap)∧w=w':=by
 subst ha
 exact ia p n cap xs w h
set_option maxHeartbeats 400000 in
theorem MQ (p q:Option Addr) (n m cap cap':Nat) (xs ys a c:List Nat) (w:World) (hx:Sl w .u32 (.slice p n cap) xs) (hy:Sl w .u32 (.slice q m cap') ys)
  (ha:trim xs=a) (hc:trim ys=c) (hne:a.length≠c.length) :
  Calls prog 162 #[.slice p n cap,.slice q m cap'] w fun e w'=>e = .returned (.int .i64 (mj (decide (c.length<a.length))))∧∃n,w'=w.drewN n:=by
 have Hx:=hid hx
 have Hy:=hid hy
 have Ha:=hid ha
 have Hc:=hid hc
 clear hx hy ha hc
 go_enter func162,ntmps162
 go_wp2_with fail
 refine (eD Hx.out Ha.out).mono ?_
 rintro e w' ⟨rfl,rfl⟩
 go_wp2_with fail
 refine (eD Hy.out Hc.out).mono ?_
 rintro e w' ⟨rfl,rfl⟩
 go_wp2_with fail
 refine (Bi _ _).mono ?_
 rintro e w' ⟨rfl,rfl⟩
 go_wp2_with fail
 go_ret
 exact ⟨rfl,0,rfl⟩
set_option maxHeartbeats 400000 in
theorem MR (p q:Option Addr) (n m cap cap':Nat) (xs ys:List Nat) (w:World) (hx:Sl w .u32 (.slice p n cap) xs) (hy:Sl w .u32 (.slice q m cap') ys)
  (ha:trim xs = []) (hc:trim ys = []) :
  Calls prog 162 #[.slice p n cap,.slice q m cap'] w fun e w'=>e = .returned (.int .i64 0)∧∃n,w'=w.drewN n:=by
 have Hx:=hid hx
 have Hy:=hid hy
 have Ha:=hid ha
 have Hc:=hid hc
 clear hx hy ha hc
 go_enter func162,ntmps162
 go_wp2_with fail
 refine (eD Hx.out Ha.out).mono ?_
 rintro e w' ⟨rfl,rfl⟩
 go_wp2_with fail
 refine (eD Hy.out Hc.out).mono ?_
 rintro e w' ⟨rfl,rfl⟩
 go_wp2_with fail
 refine wp_loop_rounds 1 ?_
 rw [rounds_succ]
 go_wp2
 go_ret
 exact ⟨rfl,0,rfl⟩
set_option maxHeartbeats 400000 in
theorem cmp_eq (b off cap b' off' cap' m n: Nat) (xs ys a c:List Nat) (w:World) (hx:Sl w .u32 (.slice (some ⟨b,off,none⟩) n cap) xs) (hy:Sl w .u32 (.slice (some ⟨b',off',none⟩) m cap') ys)
  (ha:trim xs=a) (hc:trim ys=c) (heq:a.length=c.length) (hlen:a.length<=9223372036854775807)
  (hca:∀j,j<a.length->w.cell? ⟨b,off+j,none⟩=some (.int .u32 (nth a j))) (hcc:∀j,j<c.length->w.cell? ⟨b',off'+j,none⟩=some (.int .u32 (nth c j))) (all:All 4294967296 a) (all':All 4294967296 c) :
  Calls prog 162 #[.slice (some ⟨b,off,none⟩) n cap,.slice (some ⟨b',off',none⟩) m cap'] w fun e w'=>e = .returned (.int .i64 (cT (val 4294967296 a) (val 4294967296 c)))∧∃n,w'=w.drewN n:=by
 have Hx:=hid hx
 have Hy:=hid hy
 have Ha:=hid ha
 have Hc:=hid hc
 have He:=hid heq
 have L1:a.length<=c.length:=by omega
 have L2:c.length<=a.length:=by omega
 have Al:=hid all
 have uf:=hid all'
 clear hx hy ha hc heq all all'
 go_enter func162,ntmps162
 go_wp2_with fail
 refine (eD Hx.out Ha.out).mono ?_
 rintro e w' ⟨rfl,rfl⟩
 go_wp2_with fail
 refine (eD Hy.out Hc.out).mono ?_
 rintro e w' ⟨rfl,rfl⟩
 rw [<- He.out]
 go_wp2_with fail
 go_loopw [5] (fun i wr=>∃(k n:Nat) (q:Int),k<=a.length∧i = .int .i64 q∧q=(k:Int)-1∧wr=w.drewN n∧a.drop k=c.drop k) (fun i _=>(intOf i+1).toNat)
 case atStart=>exact ⟨a.length,0,_,Nat.le_refl _,rfl,rfl,rfl,by rw [List.drop_length,He.out,List.drop_length]⟩
 case round=>
  obtain ⟨k,d,q,hk,rfl,hq,rfl,hdr⟩:=hrel
  have HD:=hid hdr
  clear hdr
  cases k with
  | zero=>
   obtain rfl:q = -1:=by omega
   clear hq
   go_wp2
   go_ret
   refine ⟨?_,_,rfl⟩
   have:a=c:=by simpa using HD.out
   simp [cT,this]
  | succ k=>
   obtain rfl:q=(k:Int):=by omega
   clear hq
   have ka:=hca k (by omega)
   have kc:=hcc k (by omega)
   clear hca hcc
   have b1:(k:Int)<(a.length:Int):=by omega
   by_cases hne:nth a k=nth c k
   ·have hb:(((nth a k:Nat):Int) != ((nth c k:Nat):Int))=false:=by rw [hne];simp
    have HE:=hid hne
    clear hne
    go_wp2
    go_quiet (fail)
    go_wp2
    go_roundw
    case rel=>exact ⟨k,_,_,by omega,rfl,rfl,rfl,by rw [nQ a,nQ c,HE.out,HD.out]⟩
    case measure=>simp [intOf]
   ·have hb:(((nth a k:Nat):Int) != ((nth c k:Nat):Int))=true:=by rw [bne_iff_ne];omega
    go_wp2
    go_quiet (fail)
    go_wp2
    have MS:((w.drewN d).drewN nq).cell? ⟨b,off+k,none⟩=some (.int .u32 (nth a k)):=ka
    have MT:((w.drewN d).drewN nq).cell? ⟨b',off'+k,none⟩=some (.int .u32 (nth c k)):=kc
    generalize hw2:(w.drewN d).drewN nq=w2 at *
    have qD:=hid hw2
    clear hw2
    go_quiet ((go_at_call 180;refine Calls.quiet_of_same ((Bi _ _).mono fun _ _ h=>⟨h.1,h.2.symm⟩)))
    go_wp2
    go_ret
    obtain rfl:=qD.out
    refine ⟨gy ?_,_,by rw [World.drewN_drewN,World.drewN_drewN]⟩
    rcases Nat.lt_or_ge (nth a k) (nth c k) with h | h
    ·rw [jL (qE (by omega) (by omega) HD.out Al.out h),Bh (by omega)]
    ·rw [qF (qE (by omega) (by omega) HD.out.symm uf.out (by omega)),Bg (by omega)]
theorem ug  (hx:Sl w .u32 v xs) (hy:Sl w .u32 u ys) (ax:All 4294967296 xs) (ay:All 4294967296 ys) :
  Calls prog 162 #[v,u] w fun e w'=>e = .returned (.int .i64 (cT (val 4294967296 xs) (val 4294967296 ys)))∧∃n,w'=w.drewN n:=by
 have tx:=hx
 have ty:=hy
 obtain ⟨p,cap,rfl,h1,h2,h3⟩:=hx
 obtain ⟨p',cap',rfl,h1',h2',h3'⟩:=hy
 have ex:val 4294967296 (trim xs)=val 4294967296 xs:=fV xs
 have ey:val 4294967296 (trim ys)=val 4294967296 ys:=fV ys
 have dx:=dH ax
 have dy:=dH ay
 have lx:(trim xs).length<=xs.length:=by rw [ej];exact fQ _ _
 have ly:(trim ys).length<=ys.length:=by rw [ej];exact fQ _ _
 by_cases hl:(trim xs).length=(trim ys).length
 ·by_cases h0:(trim xs).length=0
  ·have a0:trim xs = []:=List.eq_nil_of_length_eq_zero h0
   have b0:trim ys = []:=List.eq_nil_of_length_eq_zero (hl▸h0)
   refine (MR p p' _ _ cap cap' xs ys w tx ty a0 b0).mono ?_
   rintro e w' ⟨rfl,hw⟩
   refine ⟨?_,hw⟩
   rw [<- ex,<- ey,a0,b0,uh]
  ·rcases h3 with h3 | ⟨b,off,rfl,h4,h5⟩
   ·subst h3;simp [trim] at h0
   rcases h3' with h3' | ⟨b',off',rfl,h4',h5'⟩
   ·subst h3';exact absurd hl h0
   have q:=cmp_eq b off cap b' off' cap' ys.length xs.length xs ys (trim xs) (trim ys) w tx ty rfl rfl hl (by omega)
    (fun j hj=>by rw [h5 j (by omega),trim,fr _ (by rw [<- ej];omega)]) (fun j hj=>by rw [h5' j (by omega),trim,fr _ (by rw [<- ej];omega)])
    (ax.take _) (ay.take _)
   rw [ex,ey] at q
   exact q
 ·refine (MQ p p' _ _ cap cap' xs ys _ _ w tx ty rfl rfl hl).mono ?_
  rintro e w' ⟨rfl,hw⟩
  refine ⟨?_,hw⟩
  congr 2
  rcases Nat.lt_or_ge (trim xs).length (trim ys).length with h | h
  ·have:val 4294967296 xs<val 4294967296 ys:=by rw [dx,dy] at h;exact mq h
   rw [jL this,Bh (by omega)]
  ·have hlt:(trim ys).length<(trim xs).length:=by omega
   have:val 4294967296 ys<val 4294967296 xs:=by rw [dx,dy] at hlt;exact mq hlt
   rw [qF this,Bg (by omega)]
theorem Tryz.infoU:(prog.info? 119).map (fun i=>(i.zero,i.size,i.bytes))=some (some (.int .u32 0),1,4):=by kernel_rfl
theorem Tryz.sizeU:(prog.info? 119).map (·.size)=some 1:=by kernel_rfl
theorem Tryz.infoI:(prog.info? 3).map (fun i=>(i.zero,i.size,i.bytes))=some (some (.int .i64 0),1,8):=by kernel_rfl
def Made (e:TypeId) (k:IntKind) (w:World) (xs:List Nat) (en:Ending) (w':World):Prop:=
 ∃v,en = .returned v∧Own w' e k w.heap.size v xs∧w.grownBy w' none
def MU (e:TypeId) (k:IntKind) (w:World) (xs:List Nat) (en:Ending) (w':World):Prop:=
 ∃g cap,en = .returned (.slice (some ⟨g,0,none⟩) xs.length cap)∧Own w' e k w.heap.size (.slice (some ⟨g,0,none⟩) xs.length cap) xs∧w.grownBy w' none
set_option maxHeartbeats 400000 in
theorem Bj  (hx:Sl w .u32 v xs) (hlen:xs.length<=17592186044416) :
  Calls prog 121 #[v] w (MU 119 .u32 w (trim xs)):=by
 obtain ⟨p,cap,rfl,h1,h2,h3⟩:=id hx
 have hl:(trim xs).length<=xs.length:=by rw [ej];exact fQ _ _
 have ht:Sl w .u32 (.slice p (trim xs).length cap) (trim xs):=by
  have:=hx.take _ hl
  rwa [show xs.take (trim xs).length=trim xs by rw [ej];rfl] at this
 obtain ⟨i0,hi,hz0,hz1,hz2⟩:=info_parts Tryz.infoU
 obtain ⟨a,ha⟩:∃a,trim xs=a:=⟨_,rfl⟩
 rw [ha] at ht hl ⊢
 have Hx:=hid hx
 have Ht:=hid ht
 have Ha:=hid ha
 clear hx ht ha h3
 go_enter func121,ntmps121
 go_wp2_with fail
 refine (eD Hx.out Ha.out).mono ?_
 rintro e w' ⟨rfl,rfl⟩
 go_wp2_with (first
  | (at_make;refine gR rfl _ _ 25 rfl 119 i0 (.int .u32 0) underlying25 hi hz0 hz1 rfl _ _ _ _ a.length a.length rfl rfl (hL:=rfl) (hC:=rfl) (Nat.le_refl _) ?_;intro w1 r1 g1 s1)
  | ((with_reducible refine FW rfl (.tmp 9) (.tmp 10) 25 25 rfl 119 underlying25 Tryz.sizeU .u32 p w.heap.size 0 a.length a.length a.length a.length a.length cap (fun _=>.int .u32 0) a rfl rfl (Ht.out.grown g1 (.inl rfl)) r1 (Nat.min_self _).symm ?_);intro w2 r2 g2 s2))
 go_ret
 refine ⟨_,_,rfl,.inr ⟨_,_,_,rfl,Nat.le_refl _,r2,Nat.le_refl _,by omega,fun j hj=>ip _ _ _ hj⟩,cK g1 g2 (Nat.le_refl _)⟩
theorem qq  (hx:Sl w .u32 v xs) (hlen:xs.length<=17592186044416) :
  Calls prog 121 #[v] w (Made 119 .u32 w (trim xs)):=
 (Bj hx hlen).mono fun _ _ ⟨_,_,h1,h2,h3⟩=>⟨_,h1,h2,h3⟩
def qG (B g:Nat) (w:World) (xs ys:List Nat) (en:Ending) (w':World):Prop:=
 ∃g' cap' zs,en = .returned (.slice (some ⟨g',0,none⟩) zs.length cap')∧Own w' 119 .u32 B (.slice (some ⟨g',0,none⟩) zs.length cap') zs∧All 4294967296 zs ∧
  val 4294967296 zs=val 4294967296 xs+val 4294967296 ys∧xs.length<=zs.length∧zs.length<=xs.length+1∧(zs.length=xs.length∨4294967296 ^ (zs.length-1)<=val 4294967296 zs)∧w.grownBy w' (some g)
theorem MV  (hB:B<=g) (hle:xs.length<=cap) (hcap:cap<=9223372036854775807)
  (hx:∀j,j<xs.length->c j = .int .u32 (nth xs j)) (hk:k<=xs.length) (ax:All 4294967296 xs)
  (h0:bM 4294967296 (nth xs) (nth ys) k=0)
  (hr:aJ wr 119 g cap (lay c 0 k .u32 (pre (dU 4294967296 (nth xs) (nth ys)) xs.length))) (hg:w.grownBy wr (some g)) (hky:ys.length<=k:=by omega) :
  qG B g w xs ys (.returned (.slice (some ⟨g,0,none⟩) xs.length cap)) wr:=by
 have hz:∀d,k+d<=xs.length->bM 4294967296 (nth xs) (nth ys) (k+d)=0:=by
  intro d
  induction d with
  | zero=>intro _;exact h0
  | succ d ih=>
   intro hd
   rw [<- Nat.add_assoc]
   simp only [bM]
   rw [ih (by omega),eh ys]
   have:=bE (by omega) ax (k+d)
   omega
 have hd:∀j,k<=j->j<xs.length->dU 4294967296 (nth xs) (nth ys) j=nth xs j:=by
  intro j h1 h2
  have e:=hz (j-k) (by omega)
  rw [show k+(j-k)=j by omega] at e
  have:=bE (by omega) ax j
  simp only [dU]
  rw [e,eh ys]
  omega
 have hl:(pre (dU 4294967296 (nth xs) (nth ys)) xs.length).length=xs.length:=dh _ _
 refine ⟨g,cap,pre (dU 4294967296 (nth xs) (nth ys)) xs.length,by rw [hl],.inr ⟨g,cap,_,rfl,hB,hr,by omega,hcap,fun j hj=>?_⟩,fN (fun j _=>qH _ _ _),?_,by omega,by omega,.inl hl,hg⟩
 ·rw [hl] at hj
  rw [fk _ hj]
  by_cases hjk:j<k
  ·rw [ip _ _ _ hjk,fk _ hj]
  ·rw [dQ _ _ _,hx j hj,hd j (by omega) hj]
 ·have e:=nR 4294967296 (nth xs) (nth ys) xs.length
  have e0:=hz (xs.length-k) (by omega)
  rw [show k+(xs.length-k)=xs.length by omega] at e0
  rw [e0,eG _ xs (Nat.le_refl _),eG _ ys (by omega)] at e
  simpa using e
theorem MW {v':Value}
  (h0:bM 4294967296 (nth xs) (nth ys) xs.length=1) (hg:w.grownBy wr (some g)) (hg':wr.grownBy w' (some g))
  (ho:Own w' 119 .u32 B v' (pre (dU 4294967296 (nth xs) (nth ys)) xs.length ++ [1])) (hky:ys.length<=xs.length:=by omega) :
  qG B g w xs ys (.returned v') w':=by
 have hl:(pre (dU 4294967296 (nth xs) (nth ys)) xs.length ++ [1]).length=xs.length+1:=by simp [dh]
 rcases id ho with ⟨_,h⟩ | ⟨g',cap',c,rfl,_⟩
 ·simp at h
 refine ⟨g',cap',_,rfl,ho,(fN (fun j _=>qH _ _ _)).app (All.cons (by omega) (All.nil _)),?_,by omega,by omega,.inr ?_,aR hg hg'⟩
 ·have e:=nR 4294967296 (nth xs) (nth ys) xs.length
  rw [h0,eG _ xs (Nat.le_refl _),eG _ ys (by omega)] at e
  rw [mr,dh]
  exact e
 ·rw [hl,mr,dh,Nat.add_sub_cancel]
  omega
set_option maxHeartbeats 1000000 in
theorem MZ (g cap B:Nat) (vy:Value) (xs ys:List Nat) (w:World) (hown:Own w 119 .u32 B (.slice (some ⟨g,0,none⟩) xs.length cap) xs) (hy:Sl w .u32 vy ys) (hne:ys ≠ []->vy.ownBlock≠some g)
  (hl:ys.length<=xs.length) (ax:All 4294967296 xs) (ay:All 4294967296 ys) (hlen:xs.length<17592186044416) (hB:B<=w.heap.size) :
  Calls prog 192 #[.slice (some ⟨g,0,none⟩) xs.length cap,vy] w (qG B g w xs ys):=by
 obtain ⟨p,cW,rfl,h1,h2,h3⟩:=hy
 rcases hown with ⟨h,_⟩ | ⟨g',cap',c,e,hBg,hr,hle,hcap,hx⟩
 ·cases h
 simp only [Value.slice.injEq,Option.some.injEq,Addr.mk.injEq,and_true] at e
 obtain ⟨rfl,-,rfl⟩:=e
 obtain ⟨i0,hi,hz0,hz1,hz2⟩:=info_parts Tryz.infoU
 obtain ⟨n,hn⟩:∃n,xs.length=n:=⟨_,rfl⟩
 obtain ⟨m,hm⟩:∃m,ys.length=m:=⟨_,rfl⟩
 obtain ⟨Z,hZ⟩:∃Z,pre (dU 4294967296 (nth xs) (nth ys)) xs.length=Z:=⟨_,rfl⟩
 have hZn:∀j,j<n->nth Z j=dU 4294967296 (nth xs) (nth ys) j:=fun j hj=>by rw [<- hZ];exact fk _ (by omega)
 have hZl:Z.length=n:=by rw [<- hZ,dh,hn]
 have cz:∀k,k<=n->bM 4294967296 (nth xs) (nth ys) k<=1:=fun k _=>ui (bE (by omega) ax) (bE (by omega) ay) k
 rw [hn] at hl hlen hle hx ⊢
 rw [hm] at hl h1 ⊢
 have Hn:=hid hn
 have Hm:=hid hm
 have HZ:=hid hZ
 have HZn:=hid hZn
 have HZl:=hid hZl
 have Hx:=hid hx
 have Ax:=hid ax
 have Ay:=hid ay
 have H3:=hid h3
 have Cz:=hid cz
 have Hne:=hid hne
 clear hn hm hZ hZn hZl hx ax ay h3 cz hne
 go_enter func192,ntmps192
 go_wp2_with fail
 go_loopw [5,11] (fun cv i wr=>∃k:Nat,k<=m∧i = .int .i64 k∧cv = .int .u64 (bM 4294967296 (nth xs) (nth ys) k)∧aJ wr 119 g cap (lay c 0 k .u32 Z)∧w.grownBy wr (some g)) (fun _ i _=>(m-(intOf i).toNat))
 case atStart=>exact ⟨0,by omega,rfl,rfl,by rw [iq];exact hr,bt _ _⟩
 case round=>
  obtain ⟨k,hk,rfl,rfl,rr,gr⟩:=hrel
  have hcr:=Cz.out k (by omega)
  by_cases hlt:k<m
  ·have c1:wr.cell? ⟨g,k,none⟩=some (.int .u32 (nth xs k)):=by
    rw [rr.cell (by omega),dQ _ _ _,Hx.out k (by omega)]
   rcases H3.out with h3 | ⟨b,off,rfl,hbl,hy⟩
   ·have:=Hm.out;rw [h3] at this;simp at this;omega
   have c2:wr.cell? ⟨b,off+k,none⟩=some (.int .u32 (nth ys k)):=by
    rw [World.cell?_of_block (w:=w) (gr.block b hbl (by simpa [Value.ownBlock] using Hne.out (fun h=>by have:=Hm.out;rw [h] at this;simp at this;omega))),hy k (by rw [Hm.out];omega)]
   clear hy
   have f1:wr.frozen? ⟨g,k,none⟩=false:=rr.frozen k
   have b1:nth xs k<4294967296:=bE (by omega) Ax.out k
   have b2:nth ys k<4294967296:=bE (by omega) Ay.out k
   have i1:(k:Int)<(n:Int):=by omega
   have HC:=hid (show bM 4294967296 (nth xs) (nth ys) (k+1)=(bM 4294967296 (nth xs) (nth ys) k+(nth xs k+nth ys k)) / 4294967296 from rfl)
   have HD:=hid (show nth Z k=(bM 4294967296 (nth xs) (nth ys) k+(nth xs k+nth ys k)) % 4294967296 from HZn.out k (by omega))
   generalize bM 4294967296 (nth xs) (nth ys) k=cr at *
   go_wp2
   go_roundw
   case rel=>
    refine ⟨k+1,by omega,by go_num,int_eq (by rw [HC.out];omega),?_,aR gr (bV _ _ _ _)⟩
    rw [<- gx c k .u32 Z rfl]
    have hv:Value.int .u32 (((cr:Int)+((nth xs k:Nat)+(nth ys k:Nat):Int)) % 4294967296) = .int .u32 (nth Z k):=int_eq (by rw [HD.out];omega)
    rw [<- hv]
    exact rr.set k _
   case measure=>simp [intOf];omega
  ·obtain rfl:k=m:=by omega
   generalize nS:bM 4294967296 (nth xs) (nth ys) k=cr at *
   have HC0:=hid nS
   clear nS
   go_wp2
   go_loopw [8,5] (fun i cv wr2=>∃q:Nat,k<=q∧q<=n∧i = .int .i64 q∧cv = .int .u64 (bM 4294967296 (nth xs) (nth ys) q)∧aJ wr2 119 g cap (lay c 0 q .u32 Z)∧w.grownBy wr2 (some g)) (fun i _ _=>(n-(intOf i).toNat))
   case atStart=>exact ⟨k,Nat.le_refl _,by omega,rfl,by rw [HC0.out],rr,gr⟩
   case round=>
    obtain ⟨q,hq,hqn,rfl,rfl,fD,gI⟩:=hrel
    have hcq:=Cz.out q hqn
    have HC:=hid (show bM 4294967296 (nth xs) (nth ys) (q+1)=(bM 4294967296 (nth xs) (nth ys) q+(nth xs q+nth ys q)) / 4294967296 from rfl)
    generalize nT:bM 4294967296 (nth xs) (nth ys) q=cq at *
    have HC1:=hid nT
    clear nT
    by_cases h0:cq=0
    ·obtain rfl:=h0
     go_wp2
     go_ret
     have e:=HZ.out
     rw [<- e] at fD
     have hn:=Hn.out
     have hm:=Hm.out
     subst hn
     exact MV hBg hle hcap Hx.out hqn Ax.out HC1.out fD gI
    ·obtain rfl:cq=1:=by omega
     clear h0
     by_cases hlt2:q<n
     ·have c1:wr.cell? ⟨g,q,none⟩=some (.int .u32 (nth xs q)):=by
       rw [fD.cell (by omega),dQ _ _ _,Hx.out q (by omega)]
      have f1:wr.frozen? ⟨g,q,none⟩=false:=fD.frozen q
      have b1:nth xs q<4294967296:=bE (by omega) Ax.out q
      have i1:(q:Int)<(n:Int):=by omega
      have t1:((q:Int) == (n:Int))=false:=by rw [beq_eq_false_iff_ne];omega
      have y0:nth ys q=0:=eh ys (h:=(by rw [Hm.out];omega))
      have HD:=hid (show nth Z q=(1+nth xs q) % 4294967296 by rw [HZn.out q hlt2,dU,HC1.out,y0];rfl)
      have HC':=hid (show bM 4294967296 (nth xs) (nth ys) (q+1)=(1+nth xs q) / 4294967296 by rw [HC.out,y0];rfl)
      clear y0
      have nU:aJ (wr.setCell ⟨g,q,none⟩ (.int .u32 (nth Z q))) 119 g cap (lay c 0 (q+1) .u32 Z):=by
       rw [<- gx c q .u32 Z rfl]
       exact fD.set q _
      have nV:=hid nU
      clear nU
      by_cases hz:nth xs q=4294967295
      ·have HZ0:Hid (nth Z q=0):=by show nth Z q=0;rw [HD.out,hz]
       have HZ1:Hid (bM 4294967296 (nth xs) (nth ys) (q+1)=1):=by show bM _ _ _ _=1;rw [HC'.out,hz]
       rw [hz] at c1
       go_wp2
       go_roundw
       case rel=>
        refine ⟨q+1,by omega,by omega,by go_num,by rw [HZ1.out],?_,aR gI (bV _ _ _ _)⟩
        have e:=nV.out
        rw [HZ0.out] at e
        exact e
       case measure=>simp [intOf];omega
      ·have hz':nth xs q<4294967295:=by omega
       have HZ0:Hid (nth Z q=nth xs q+1):=by show nth Z q=_;rw [HD.out];omega
       have HZ1:Hid (bM 4294967296 (nth xs) (nth ys) (q+1)=0):=by show bM _ _ _ _=0;rw [HC'.out];omega
       have t2:(((nth xs q:Nat):Int)+1 != 0)=true:=by rw [bne_iff_ne];omega
       go_wp2
       go_roundw
       case rel=>
        refine ⟨q+1,by omega,by omega,by go_num,by rw [HZ1.out];rfl,?_,aR gI (bV _ _ _ _)⟩
        have e:=nV.out
        rw [HZ0.out] at e
        exact e
       case measure=>simp [intOf];omega
     ·obtain rfl:q=n:=by omega
      have hown2:Own wr 119 .u32 B (.slice (some ⟨g,0,none⟩) q cap) Z:=by
       have hzl:=HZl.out
       exact .inr ⟨g,cap,_,by rw [hzl],hBg,fD,by omega,hcap,fun j hj=>ip _ _ _ (by omega)⟩
      have hs2:=gI.size
      have Hl2:=hid (show Z.length<17592186044416 by rw [HZl.out];omega)
      go_wp2_with (at_builtin;refine ir rfl _ _ 25 rfl 119 i0 (.int .u32 0) .u32 underlying25 hi hz0 hz1 rfl B (.slice (some ⟨g,0,none⟩) q cap) Z 1 rfl (hown2.grown (bg _ _ none) (.inl rfl)) wr.heap.size rfl ?c1 Hl2.out (by simp;omega) ?_;(case c1=>exact (World.cell?_alloc_at _ _ _ _ rfl).trans rfl);intro v' w3 ho3 g3)
      go_ret
      have e:=HZ.out
      have hn:=Hn.out
      have hm:=Hm.out
      subst e
      subst hn
      exact MW HC1.out gI (aR (bg _ _ _) g3) ho3
structure jm (w wr:World) (lg k:Nat) (g cap:Nat) (tot:Nat) (zs:List Nat):Prop where
 own:Own wr 119 .u32 w.heap.size (.slice (some ⟨g,0,none⟩) zs.length cap) zs
 all:All 4294967296 zs
 sum:val 4294967296 zs=tot
 lo:lg<=zs.length
 hi:zs.length<=lg+k
 top:zs.length=lg∨4294967296 ^ (zs.length-1)<=val 4294967296 zs
 grown:w.grownBy wr none
theorem jm.start  (hl:lg<17592186044416) (r:aJ w1 119 w.heap.size (lg+1) (fun _=>.int .u32 0)) (g:w.grownBy w1 none) :
  jm w w1 lg 0 w.heap.size (lg+1) 0 (List.replicate lg 0) where
 own:=by
  refine .inr ⟨_,_,_,rfl,Nat.le_refl _,r,by simp,by omega,fun j hj=>?_⟩
  simp at hj
  simp [nth,hj]
 all:=All.kT (by omega) _
 sum:=jQ _ _
 lo:=by simp
 hi:=by simp
 top:=.inl (by simp)
 grown:=g
theorem jm.next {e:Ending} (h:jm w wr lg k g cap tot zs) (a:qG w.heap.size g wr zs ys e w') :
  ∃g' cap' zs',e = .returned (.slice (some ⟨g',0,none⟩) zs'.length cap')∧jm w w' lg (k+1) g' cap' (tot+val 4294967296 ys) zs':=by
 obtain ⟨g',cap',zs',rfl,ho,ha,hv,h1,h2,h3,hg⟩:=a
 have hB:=(h.own.lt g rfl).1
 refine ⟨g',cap',zs',rfl,⟨ho,ha,by rw [hv,h.sum],by have:=h.lo;omega,by have:=h.hi;omega,?_,cK h.grown hg hB⟩⟩
 rcases h3 with h3 | h3
 ·rcases h.top with t | t
  ·exact .inl (h3.trans t)
  ·exact .inr (by rw [h3,hv];omega)
 ·exact .inr h3
theorem jm.done  (h:jm w wr lg k g cap tot zs) (ht:lg≠0->4294967296 ^ (lg-1)<=tot):zs=am 4294967296 tot:=by
 have t:ib zs:=by
  refine Bk h.all ?_
  rcases h.top with t | t
  ·by_cases h0:lg=0
   ·exact .inl (List.eq_nil_of_length_eq_zero (by omega))
   ·exact .inr (by rw [t,h.sum];exact ht h0)
  ·exact .inr t
 rw [<- h.sum,uj h.all t]
set_option maxHeartbeats 1000000 in
theorem Nc (v:Value) (n:Nat) (vs:Nat->Value) (ls:Nat->List Nat) (w:World) (hv:wS w v n vs) (hs:∀j,j<n->Sl w .u32 (vs j) (ls j)) (ha:∀j,j<n->All 4294967296 (ls j))
  (M:Nat) (hM:∀j,j<n->(ls j).length<=M) (hlen:M+n<17592186044416:=by omega) :
  Calls prog 183 #[v] w (Made 119 .u32 w (am 4294967296 (iK (fun j=>val 4294967296 (ls j)) n))):=by
 obtain ⟨p,cap,rfl,h1,h2,h3⟩:=hv
 obtain ⟨i0,hi,hz0,hz1,hz2⟩:=info_parts Tryz.infoU
 obtain ⟨tl,htl⟩:∃tl:Nat->Nat,tl=fun j=>(trim (ls j)).length:=⟨_,rfl⟩
 obtain ⟨vl,hvl⟩:∃vl:Nat->Nat,vl=fun j=>val 4294967296 (ls j):=⟨_,rfl⟩
 rw [<- hvl]
 have uk:∀j,j<n->tl j<=M:=fun j hj=>by
  rw [htl]
  have:=hM j hj
  have:=fQ (ls j) (ls j).length
  show (trim (ls j)).length<=M
  rw [ej];omega
 have Bl:∀k,k<=n->fu tl k<=M:=fun k hk=>Nd _ fun j hj=>uk j (by omega)
 have Htl:=hid htl
 have Hvl:=hid hvl
 have Hs:=hid hs
 have Ha:=hid ha
 have H3:=hid h3
 have Ng:=hid uk
 have MxM:=hid Bl
 have HM:=hid hM
 clear htl hvl hs ha h3 uk Bl hM
 go_enter func183,ntmps183
 go_wp2_with fail
 go_loopw [3,11] (fun lv i wr=>∃k:Nat,k<=n∧i = .int .i64 k∧lv = .int .i64 (fu tl k)∧w=wr) (fun _ i _=>(n-(intOf i).toNat))
 case atStart=>exact ⟨0,by omega,rfl,rfl,rfl⟩
 case round=>
  obtain ⟨k,hk,rfl,rfl,rfl⟩:=hrel
  by_cases hlt:k<n
  ·rcases H3.out with h3 | ⟨b,off,rfl,hbl,hc⟩
   ·omega
   obtain ⟨pk,qI,hvk,hk1,hk2,hk3⟩:=Hs.out k hlt
   have ck:=hc k hlt
   rw [hvk] at ck
   have Sk:=hid (hvk▸Hs.out k hlt)
   have HTk:=hid (show (trim (ls k)).length=tl k by rw [Htl.out])
   have HX:=hid (show fu tl (k+1)=max (fu tl k) (tl k) from rfl)
   have m1:=MxM.out k hk
   have m2:=Ng.out k hlt
   clear hc hvk hk3
   generalize fu tl k=mx at *
   have i1:(k:Int)<(n:Int):=by omega
   go_wp2_with fail
   refine (ia _ _ _ _ _ Sk.out).mono ?_
   rintro e w' ⟨rfl,rfl⟩
   rw [HTk.out]
   go_wp2_with fail
   go_roundw
   case rel=>
    refine ⟨k+1,by omega,by go_num,int_eq ?_,trivial⟩
    rw [HX.out]
    split <;> omega
   case measure=>simp [intOf];omega
  ·obtain rfl:k=n:=by omega
   have m1:=MxM.out k hk
   have Nh:=hid (show fu tl k≠0->4294967296 ^ (fu tl k-1)<=iK vl k by
    intro h0
    obtain ⟨j,hj,e⟩:=Nj tl k h0
    have h1:=Nk vl hj
    have h2:tl j=(am 4294967296 (vl j)).length:=by
     rw [Htl.out,Hvl.out]
     show (trim (ls j)).length=_
     rw [dH (Ha.out j hj)]
    rw [e,h2]
    refine Nat.le_trans (ul (h:=?_)) h1
    rw [<- h2,<- e]
    exact h0)
   have TL:=hid (show ∀j,j<k->tl j<=fu tl k from fun j hj=>Nl tl hj)
   generalize fu tl k=mx at *
   go_wp2_with (at_make;refine gR rfl _ _ 25 rfl 119 i0 (.int .u32 0) underlying25 hi hz0 hz1 rfl _ _ _ _ mx (mx+1) rfl rfl (hL:=rfl) (by omega) ?_;intro w1 r1 g1 s1;have Si:=hid (jm.start (by omega) r1 g1);clear r1 g1 s1)
   go_loopw [6,27] (fun ov i wr2=>∃(q g2 cap2:Nat) (zs:List Nat),q<=k∧i = .int .i64 q∧ov = .slice (some ⟨g2,0,none⟩) zs.length cap2∧jm w wr2 mx q g2 cap2 (iK vl q) zs) (fun _ i _=>(k-(intOf i).toNat))
   case atStart=>
    refine ⟨0,_,_,_,by omega,rfl,?_,Si.out⟩
    simp
   case round=>
    obtain ⟨q,g2,cap2,zs,hq,rfl,rfl,inv⟩:=hrel
    by_cases hlt2:q<k
    ·rcases H3.out with h3 | ⟨b,off,rfl,hbl,hc⟩
     ·omega
     obtain ⟨pk,qI,hvk,hk1,hk2,hk3⟩:=Hs.out q hlt2
     have ck:=hc q hlt2
     rw [hvk] at ck
     have ck2:wr.cell? ⟨b,off+q,none⟩=some (.slice pk (ls q).length qI):=by
      rw [World.cell?_of_block (w:=w) (inv.grown.block b hbl (by simp)),ck]
     have qJ:=hvk▸Hs.out q hlt2
     have Sk:=hid (qJ.grown inv.grown (.inl rfl))
     have Tt:trim (ls q)=(ls q).take (trim (ls q)).length:=by rw [ej];rfl
     have Tl:(trim (ls q)).length<=(ls q).length:=by rw [ej];exact fQ _ _
     have St:Sl wr .u32 (.slice pk (trim (ls q)).length qI) (trim (ls q)):=by
      have:=(qJ.grown inv.grown (.inl rfl)).take _ Tl
      rwa [<- Tt] at this
     have Nm:=hid St
     have Hb:=hid (show (trim (ls q)).length<=zs.length from by
      have h1:=TL.out q hlt2
      have h2:=inv.lo
      rw [Htl.out] at h1
      exact Nat.le_trans h1 h2)
     have Hne:=hid (show trim (ls q) ≠ []->(Value.slice pk (trim (ls q)).length qI).ownBlock≠some g2 by
      intro h0 e
      have l1:=(qJ.take _ Tl).block_lt (by rw [<- Tt];exact h0) g2 e
      have l2:=(inv.own.lt g2 rfl).1
      omega)
     have i1:(q:Int)<(k:Int):=by omega
     have hsz:=inv.grown.size
     have Inv:=hid inv
     have L2:=hid (show zs.length<17592186044416 by have:=inv.hi;omega)
     have HV:=hid (show vl q=val 4294967296 (trim (ls q)) by rw [fV,Hvl.out])
     have HS:=hid (show iK vl (q+1)=iK vl q+vl q from rfl)
     have A1:=hid (show All 4294967296 (trim (ls q)) by rw [Tt];exact (Ha.out q hlt2).take _)
     clear hc hvk hk3 inv ck Tt Tl St qJ
     go_wp2_with fail
     refine (ia _ _ _ _ _ Sk.out).mono ?_
     rintro e w' ⟨rfl,rfl⟩
     go_wp2_with fail
     refine (MZ g2 cap2 w.heap.size _ zs (trim (ls q)) wr Inv.out.own Nm.out Hne.out Hb.out Inv.out.all A1.out L2.out hsz).mono ?_
     intro e w' had
     obtain ⟨g3,Bm,zs3,rfl,Nn⟩:=Inv.out.next had
     go_wp2_with fail
     go_roundw
     case rel=>
      refine ⟨q+1,g3,Bm,zs3,by omega,by go_num,rfl,?_⟩
      rw [HS.out,HV.out]
      exact Nn
     case measure=>simp [intOf];omega
    ·obtain rfl:q=k:=by omega
     have Inv:=hid inv
     clear inv
     go_wp2
     go_ret
     have e:=Inv.out.done Nh.out
     have ho:=Inv.out.own
     rw [<- e]
     exact ⟨_,rfl,ho,Inv.out.grown⟩
def two (a b:Value):Nat->Value:=fun j=>if j=0 then a else b
def two' (a b:List Nat):Nat->List Nat:=fun j=>if j=0 then a else b
theorem No (w:World) (a b:Value) (e:TypeId):wS (w.alloc (.cells #[a,b] e)) (.slice (some ⟨w.heap.size,0,none⟩) 2 2) 2 (two a b):=by
 refine ⟨_,2,rfl,Nat.le_refl _,by omega,.inr ⟨w.heap.size,0,rfl,by simp,fun j hj=>?_⟩⟩
 rw [Nat.zero_add,World.cell?_alloc_at _ _ _ _ rfl]
 have:j=0∨j=1:=by omega
 rcases this with rfl | rfl <;> rfl
theorem Made.later {k:IntKind}{en:Ending} (h:Made e k w1 xs en w') (g:w.grownBy w1 none):Made e k w xs en w':=by
 obtain ⟨v,h1,h2,h3⟩:=h
 exact ⟨v,h1,h2.mono g.size,aR g h3⟩
set_option maxHeartbeats 400000 in
theorem Np  (hx:Sl w .u32 v xs) (hy:Sl w .u32 u ys) (ax:All 4294967296 xs) (ay:All 4294967296 ys) (lx:xs.length<=8796093022208:=by omega) (ly:ys.length<=8796093022208:=by omega) :
  Calls prog 164 #[v,u] w (Made 119 .u32 w (am 4294967296 (val 4294967296 xs+val 4294967296 ys))):=by
 obtain ⟨p,cap,rfl,-⟩:=id hx
 obtain ⟨q,cap',rfl,-⟩:=id hy
 have Hx:=hid hx
 have Hy:=hid hy
 have Ax:=hid ax
 have Ay:=hid ay
 clear hx hy ax ay
 go_enter func164,ntmps164
 go_wp2_with fail
 refine (Nc _ 2 (two (.slice p xs.length cap) (.slice q ys.length cap')) (two' xs ys) _ (No w _ _ _) ?_ ?_ 8796093022208 ?_).mono ?_
 ·intro j hj
  have:j=0∨j=1:=by omega
  rcases this with rfl | rfl
  ·exact Hx.out.grown (bg _ _ none) (.inl rfl)
  ·exact Hy.out.grown (bg _ _ none) (.inl rfl)
 ·intro j hj
  have:j=0∨j=1:=by omega
  rcases this with rfl | rfl
  ·exact Ax.out
  ·exact Ay.out
 ·intro j hj
  have:j=0∨j=1:=by omega
  rcases this with rfl | rfl
  ·exact lx
  ·exact ly
 ·intro e w' h
  obtain ⟨v',rfl,ho,hg⟩:=h.later (bg w _ none)
  go_wp2_with fail
  go_ret
  have e:iK (fun j=>val 4294967296 (two' xs ys j)) 2=val 4294967296 xs+val 4294967296 ys:=by simp [iK,two']
  rw [e] at ho
  exact ⟨_,rfl,ho,hg⟩
def um (w:World) (m n:Nat) (en:Ending) (w':World):Prop:=
 (m<n∧en = .returned (.tuple #[.slice none 0 0,.bool false])∧w.grownBy w' none) ∨
 (n<=m∧∃v,en = .returned (.tuple #[v,.bool true])∧Own w' 119 .u32 w.heap.size v (am 4294967296 (m-n))∧w.grownBy w' none)
theorem Ns  (hB:B<=g) (hle:xs.length<=cap) (hcap:cap<=9223372036854775807)
  (hx:∀j,j<xs.length->c j = .int .u32 (nth xs j))
  (h0:bm (nth xs) (nth ys) k=0)
  (hr:aJ wr 119 g cap (lay c 0 k .u32 (pre (fE 4294967296 (nth xs) (nth ys)) xs.length))) (hky:ys.length<=k:=by omega) :
  Own wr 119 .u32 B (.slice (some ⟨g,0,none⟩) xs.length cap) (pre (fE 4294967296 (nth xs) (nth ys)) xs.length):=by
 refine .inr ⟨g,cap,_,by rw [dh],hB,hr,by rw [dh];exact hle,hcap,fun j hj=>?_⟩
 rw [dh] at hj
 rw [fk _ hj]
 by_cases hjk:j<k
 ·rw [ip _ _ _ hjk,fk _ hj]
 ·rw [dQ _ _ _,hx j hj,Nt h0 hky]
theorem Own.trim {k:IntKind} (h:Own w e k B (.slice p m cap) xs):Own w e k B (.slice p (Go.Proofs.YtbjfgffibepmkaaGreat.trim xs).length cap) (Go.Proofs.YtbjfgffibepmkaaGreat.trim xs):=by
 have hl:(Go.Proofs.YtbjfgffibepmkaaGreat.trim xs).length<=xs.length:=by rw [ej];exact fQ _ _
 have:=h.take _ hl
 rwa [show xs.take (Go.Proofs.YtbjfgffibepmkaaGreat.trim xs).length=Go.Proofs.YtbjfgffibepmkaaGreat.trim xs by rw [ej];rfl] at this
theorem Sl.trim {k:IntKind} (h:Sl w k (.slice p m cap) xs):Sl w k (.slice p (Go.Proofs.YtbjfgffibepmkaaGreat.trim xs).length cap) (Go.Proofs.YtbjfgffibepmkaaGreat.trim xs):=by
 have hl:(Go.Proofs.YtbjfgffibepmkaaGreat.trim xs).length<=xs.length:=by rw [ej];exact fQ _ _
 have:=h.take _ hl
 rwa [show xs.take (Go.Proofs.YtbjfgffibepmkaaGreat.trim xs).length=Go.Proofs.YtbjfgffibepmkaaGreat.trim xs by rw [ej];rfl] at this
set_option maxHeartbeats 400000 in
theorem Nv  (hx:Sl w .u32 v xs) (hy:Sl w .u32 u ys) (ax:All 4294967296 xs) (ay:All 4294967296 ys) (hlt:val 4294967296 xs<val 4294967296 ys) :
  Calls prog 177 #[v,u] w (um w (val 4294967296 xs) (val 4294967296 ys)):=by
 have Hx:=hid hx
 have Hy:=hid hy
 have Ax:=hid ax
 have Ay:=hid ay
 have Hlt:=hid (jL hlt)
 clear hx hy ax ay
 go_enter func177,ntmps177
 go_wp2_with fail
 refine (ug Hx.out Hy.out Ax.out Ay.out).mono ?_
 rintro e w' ⟨rfl,d,rfl⟩
 rw [Hlt.out]
 go_wp2_with fail
 go_ret2
 exact .inl ⟨hlt,rfl,⟨rfl,rfl,rfl,Nat.le_refl _,fun _ _ _=>rfl⟩⟩
theorem ic (w:World) (n:Nat) (row:Option Nat):w.grownBy (w.drewN n) row:=⟨rfl,rfl,rfl,Nat.le_refl _,fun _ _ _=>rfl⟩
set_option maxHeartbeats 1000000 in
theorem Nx  (hx:Sl w .u32 v xs) (hy:Sl w .u32 u ys) (ax:All 4294967296 xs) (ay:All 4294967296 ys) (hle:val 4294967296 ys<=val 4294967296 xs) (hlen:xs.length<=17592186044416) :
  Calls prog 177 #[v,u] w (um w (val 4294967296 xs) (val 4294967296 ys)):=by
 obtain ⟨p,cap,rfl,-⟩:=id hx
 obtain ⟨q,cW,rfl,-⟩:=id hy
 have Hx:=hid hx
 have Hy:=hid hy
 have Ax:=hid ax
 have Ay:=hid ay
 have Hle:=hid hle
 obtain ⟨cv,hcv⟩:∃cv,cT (val 4294967296 xs) (val 4294967296 ys)=cv:=⟨_,rfl⟩
 have h0 : (0 : Int) <= cv := by rw [<- hcv]; unfold cT; split; · omega
                                 · split <;> omega
 have Bn:=hid hcv
 clear hx hy ax ay hle hcv
 go_enter func177,ntmps177
 go_wp2_with fail
 refine (ug Hx.out Hy.out Ax.out Ay.out).mono ?_
 rintro e w' ⟨rfl,d,rfl⟩
 rw [Bn.out]
 go_wp2_with fail
 refine (Bj (Hx.out.grown (ic w d none) (.inl rfl)) hlen).mono ?_
 rintro e w1 ⟨g,cp,rfl,ho0,hg0⟩
 have hg1:w.grownBy w1 none:=aR (ic w d none) hg0
 have ho:Own w1 119 .u32 w.heap.size (.slice (some ⟨g,0,none⟩) (trim xs).length cp) (trim xs):=ho0
 have Hy1:=hid (Hy.out.grown hg1 (.inl rfl))
 have Hyt:=hid (Hy.out.trim)
 have tl:(trim ys).length<=(trim xs).length:=by
  rw [dH Ax.out,dH Ay.out]
  rcases Nat.lt_or_ge (am 4294967296 (val 4294967296 xs)).length (am 4294967296 (val 4294967296 ys)).length with h | h
  ·have:=mq h;have:=Hle.out;omega
  ·exact h
 have At:=hid (show All 4294967296 (trim xs) from Ax.out.take _)
 have Bt:=hid (show All 4294967296 (trim ys) from Ay.out.take _)
 have uo:=hid (show val 4294967296 (trim ys)<=val 4294967296 (trim xs) by rw [fV,fV];exact Hle.out)
 have Vx:=hid (show val 4294967296 xs=val 4294967296 (trim xs) from (fV xs).symm)
 have Vy:=hid (show val 4294967296 ys=val 4294967296 (trim ys) from (fV ys).symm)
 have Ny:(trim xs).length<=17592186044416:=by have:=fQ xs xs.length;rw [ej];omega
 go_wp2_with fail
 refine (ia _ _ _ _ _ Hy1.out).mono ?_
 rintro e w' ⟨rfl,rfl⟩
 generalize trim xs=a at *
 generalize trim ys=b at *
 clear Hx Hy Hy1 Bn Hle Ax Ay ho0 hg0
 rcases ho with ⟨h,_⟩ | ⟨g',cp',c,e,hBg,hr,hac,hcap,hx⟩
 ·cases h
 simp only [Value.slice.injEq,Option.some.injEq,Addr.mk.injEq,and_true] at e
 obtain ⟨rfl,-,rfl⟩:=e
 obtain ⟨n,hn⟩:∃n,a.length=n:=⟨_,rfl⟩
 obtain ⟨m,hm⟩:∃m,b.length=m:=⟨_,rfl⟩
 obtain ⟨Z,hZ⟩:∃Z,pre (fE 4294967296 (nth a) (nth b)) a.length=Z:=⟨_,rfl⟩
 have hZn:∀j,j<n->nth Z j=fE 4294967296 (nth a) (nth b) j:=fun j hj=>by rw [<- hZ];exact fk _ (by omega)
 have NA:=hid (Bo At.out Bt.out (by omega) tl uo.out)
 rw [hn] at tl Ny hac hx ⊢
 rw [hm] at tl ⊢
 have Hn:=hid hn
 have Hm:=hid hm
 have HZ:=hid hZ
 have HZn:=hid hZn
 have Hxx:=hid hx
 have Hg:=hid hg1
 have hs1:=hg1.size
 clear hn hm hZ hZn hx hg1
 go_wp2_with fail
 go_loopw [7,22] (fun cv i wr=>∃k:Nat,k<=m∧i = .int .i64 k∧cv = .int .u64 (bm (nth a) (nth b) k)∧aJ wr 119 g cp (lay c 0 k .u32 Z)∧w1.grownBy wr (some g)) (fun _ i _=>(m-(intOf i).toNat))
 case atStart=>exact ⟨0,by omega,rfl,rfl,by rw [iq];exact hr,bt _ _⟩
 case round=>
  obtain ⟨k,hk,rfl,rfl,rr,gr⟩:=hrel
  have hcr:=nW (nth a) (nth b) k
  by_cases hlt:k<m
  ·have c1:wr.cell? ⟨g,k,none⟩=some (.int .u32 (nth a k)):=by
    rw [rr.cell (by omega),dQ _ _ _,Hxx.out k (by omega)]
   obtain ⟨p',cap',e',-,-,h3⟩:=Hyt.out
   have hqq:p'=q:=by cases e';rfl
   subst hqq
   rcases h3 with h3 | ⟨bb,off,rfl,hbl,hy⟩
   ·have:=Hm.out;rw [h3] at this;simp at this;omega
   have c2:wr.cell? ⟨bb,off+k,none⟩=some (.int .u32 (nth b k)):=by
    rw [World.cell?_of_block (w:=w1) (gr.block bb (by omega) (by simp;omega)),World.cell?_of_block (w:=w) (Hg.out.block bb hbl (by simp)),hy k (by rw [Hm.out];omega)]
   clear hy e'
   have f1:wr.frozen? ⟨g,k,none⟩=false:=rr.frozen k
   have b1:nth a k<4294967296:=bE (by omega) At.out k
   have b2:nth b k<4294967296:=bE (by omega) Bt.out k
   have i1:(k:Int)<(n:Int):=by omega
   have HS:=hid (show nth Z k+(nth b k+bm (nth a) (nth b) k)=nth a k+4294967296*bm (nth a) (nth b) (k+1) by
    rw [HZn.out k (by omega)];exact qK (bE (by omega) Bt.out) k)
   have HC:=hid (show bm (nth a) (nth b) (k+1)=if nth a k<nth b k+bm (nth a) (nth b) k then 1 else 0 from rfl)
   generalize bm (nth a) (nth b) k=cr at *
   by_cases hlt1:nth a k<nth b k
   ·have hC1:bm (nth a) (nth b) (k+1)=1:=by rw [HC.out,if_pos (by omega)]
    have HC1:=hid hC1
    have e2:=HS.out
    rw [hC1] at e2
    have HE:=hid e2
    clear hC1 e2
    go_wp2
    go_roundw
    case rel=>
     refine ⟨k+1,by omega,by go_num,int_eq (by rw [HC1.out];exact FO _ _ _ b2 hcr hlt1),?_,aR gr (bV _ _ _ _)⟩
     rw [<- gx c k .u32 Z rfl]
     refine (rr.set k _).congr fun j _=>?_
     congr 1
     refine int_eq ?_
     rw [FP _ _ _ b2 hcr hlt1]
     have:=HE.out
     omega
    case measure=>simp [intOf];omega
   ·by_cases hlt2:nth a k<nth b k+cr
    ·have hC1:bm (nth a) (nth b) (k+1)=1:=by rw [HC.out,if_pos hlt2]
     have HC1:=hid hC1
     have e2:=HS.out
     rw [hC1] at e2
     have HE:=hid e2
     clear hC1 e2
     go_wp2
     go_roundw
     case rel=>
      refine ⟨k+1,by omega,by go_num,int_eq (by rw [HC1.out];exact FQ _ _ _ hcr hlt2),?_,aR gr (bV _ _ _ _)⟩
      rw [<- gx c k .u32 Z rfl]
      refine (rr.set k _).congr fun j _=>?_
      congr 1
      refine int_eq ?_
      rw [FR _ _ _ hcr hlt2]
      have:=HE.out
      omega
     case measure=>simp [intOf];omega
    ·have hC1:bm (nth a) (nth b) (k+1)=0:=by rw [HC.out,if_neg hlt2]
     have HC1:=hid hC1
     have e2:=HS.out
     rw [hC1] at e2
     have HE:=hid e2
     clear hC1 e2
     go_wp2
     go_roundw
     case rel=>
      refine ⟨k+1,by omega,by go_num,int_eq (by rw [HC1.out];exact FN _ _ _ b1),?_,aR gr (bV _ _ _ _)⟩
      rw [<- gx c k .u32 Z rfl]
      refine (rr.set k _).congr fun j _=>?_
      congr 1
      refine int_eq ?_
      have:=HE.out
      omega
     case measure=>simp [intOf];omega
  ·obtain rfl:k=m:=by omega
   generalize nS:bm (nth a) (nth b) k=cr at *
   have HC0:=hid nS
   clear nS
   go_wp2
   go_loopw [11,7] (fun i cv wr2=>∃q:Nat,k<=q∧q<=n∧i = .int .i64 q∧cv = .int .u64 (bm (nth a) (nth b) q)∧aJ wr2 119 g cp (lay c 0 q .u32 Z)∧w1.grownBy wr2 (some g)) (fun i _ _=>(n-(intOf i).toNat))
   case atStart=>exact ⟨k,Nat.le_refl _,by omega,rfl,by rw [HC0.out],rr,gr⟩
   case round=>
    obtain ⟨q,hq,hqn,rfl,rfl,fD,gI⟩:=hrel
    have hcq:=nW (nth a) (nth b) q
    have HC:=hid (show bm (nth a) (nth b) (q+1)=if nth a q<nth b q+bm (nth a) (nth b) q then 1 else 0 from rfl)
    generalize nT:bm (nth a) (nth b) q=cq at *
    have HC1:=hid nT
    clear nT
    by_cases h0:cq=0
    ·obtain rfl:=h0
     have ho2:Own wr 119 .u32 w.heap.size (.slice (some ⟨g,0,none⟩) n cp) Z:=by
      have e:=HZ.out
      have hn:=Hn.out
      have hm:=Hm.out
      subst hn
      subst e
      exact Ns hBg hac hcap Hxx.out HC1.out fD
     have Ho2:=hid ho2
     have Hgf:=hid (cK Hg.out gI hBg)
     clear ho2
     go_wp2_with fail
     refine (ia _ _ _ Z _ Ho2.out.sl).mono ?_
     rintro e w' ⟨rfl,rfl⟩
     go_wp2_with fail
     go_ret2
     have hv:val 4294967296 Z=val 4294967296 a-val 4294967296 b:=by
      rw [<- HZ.out]
      exact Bp At.out Bt.out (by rw [Hn.out,Hm.out];omega) uo.out
     refine .inr ⟨by rw [Vx.out,Vy.out];exact uo.out,_,rfl,?_,Hgf.out⟩
     have az:All 4294967296 Z:=by rw [<- HZ.out];exact fN (fun j _=>up (bE (by omega) At.out) j)
     rw [Vx.out,Vy.out,<- hv,<- dH az]
     exact Ho2.out.trim
    ·obtain rfl:cq=1:=by omega
     clear h0
     by_cases hlt2:q<n
     ·have c1:wr.cell? ⟨g,q,none⟩=some (.int .u32 (nth a q)):=by
       rw [fD.cell (by omega),dQ _ _ _,Hxx.out q (by omega)]
      have f1:wr.frozen? ⟨g,q,none⟩=false:=fD.frozen q
      have b1:nth a q<4294967296:=bE (by omega) At.out q
      have i1:(q:Int)<(n:Int):=by omega
      have y0:nth b q=0:=eh b (h:=(by rw [Hm.out];omega))
      have HS:=hid (show nth Z q+(nth b q+bm (nth a) (nth b) q)=nth a q+4294967296*bm (nth a) (nth b) (q+1) by
       rw [HZn.out q (by omega)];exact qK (bE (by omega) Bt.out) q)
      have HY:=hid y0
      clear y0
      have nU:aJ (wr.setCell ⟨g,q,none⟩ (.int .u32 (nth Z q))) 119 g cp (lay c 0 (q+1) .u32 Z):=by
       rw [<- gx c q .u32 Z rfl]
       exact fD.set q _
      have nV:=hid nU
      clear nU
      by_cases hz:nth a q=0
      ·have HE1:Hid (bm (nth a) (nth b) (q+1)=1):=by show bm _ _ _=1;rw [HC.out,HY.out,if_pos (by omega)]
       have HE2:Hid (nth Z q=4294967295):=by have e:=HS.out;rw [HE1.out,HY.out,HC1.out] at e;show nth Z q=_;omega
       rw [hz] at c1
       go_wp2
       go_roundw
       case rel=>
        refine ⟨q+1,by omega,by omega,by go_num,by rw [HE1.out];try rfl,?_,aR gI (bV _ _ _ _)⟩
        have e:=nV.out
        rw [HE2.out] at e
        exact e
       case measure=>simp [intOf];omega
      ·have HE1:Hid (bm (nth a) (nth b) (q+1)=0):=by show bm _ _ _=0;rw [HC.out,HY.out,if_neg (by omega)]
       have HE2:Hid (nth Z q=nth a q-1):=by have e:=HS.out;rw [HE1.out,HY.out,HC1.out] at e;show nth Z q=_;omega
       have hz':1<=nth a q:=by omega
       have t2:(((nth a q:Nat):Int) != 0)=true:=by rw [bne_iff_ne];omega
       go_wp2
       go_roundw
       case rel=>
        refine ⟨q+1,by omega,by omega,by go_num,by rw [HE1.out];try rfl,?_,aR gI (bV _ _ _ _)⟩
        have e:=nV.out
        have hv:Value.int .u32 (((nth a q:Nat):Int)-1) = .int .u32 (nth Z q):=int_eq (by rw [HE2.out];omega)
        rw [hv]
        exact e
       case measure=>simp [intOf];omega
     ·obtain rfl:q=n:=by omega
      have e:=NA.out
      rw [Hn.out,HC1.out] at e
      omega
theorem Br  (hx:Sl w .u32 v xs) (hy:Sl w .u32 u ys) (ax:All 4294967296 xs) (ay:All 4294967296 ys) (hlen:xs.length<=17592186044416:=by omega) :
  Calls prog 177 #[v,u] w (um w (val 4294967296 xs) (val 4294967296 ys)):=by
 rcases Nat.lt_or_ge (val 4294967296 xs) (val 4294967296 ys) with h | h
 ·exact Nv hx hy ax ay h
 ·exact Nx hx hy ax ay h hlen
def Wrote (w:World) (g N off n:Nat) (c:Nat->Value) (P:List Nat->Prop) (en:Ending) (w':World):Prop:=
 ∃Z,Z.length=n∧All 4294967296 Z∧P Z∧en = .returned (.tuple #[])∧aJ w' 119 g N (lay c off n .u32 Z)∧w.grownBy w' (some g)∧w'.heap.size=w.heap.size
theorem jR  (h:aJ w e g N (lay c off n .u32 Z)) (hv:v = .int .u32 (nth Z n)) :
  aJ (w.setCell ⟨g,off+n,none⟩ v) e g N (lay c off (n+1) .u32 Z):=by
 rw [<- wR c off n .u32 Z hv]
 exact h.set _ _
set_option maxHeartbeats 1000000 in
theorem Bs (g off N cap n m:Nat) (vy:Value) (c:Nat->Value) (ys:List Nat) (w:World) (hr:aJ w 119 g N c) (hn:n<32)
  (hc:∀j,j<m+1->∃x:Nat,c (off+j) = .int .u32 x) (hy:Sl w .u32 vy ys) (hne:ys ≠ []->vy.ownBlock≠some g) (hm:ys.length=m) (ay:All 4294967296 ys) (hN:off+m+1<=N:=by omega) :
  Calls prog 194 #[.slice (some ⟨g,off,none⟩) (m+1) cap,vy,.int .i64 n] w (Wrote w g N off (m+1) c (fun Z=>val 4294967296 Z=val 4294967296 ys*2 ^ n)):=by
 obtain ⟨p,cW,rfl,h1,h2,h3⟩:=hy
 have hp:=pB hn
 have hp0:0<2 ^ n:=Nat.pow_pos (by omega)
 have fm:=bE (by omega) ay
 obtain ⟨s,hs⟩:∃s:Nat->Nat,s=fun j=>nth ys j*2 ^ n:=⟨_,rfl⟩
 have jn:∀k,chC 4294967296 s 0 k<2 ^ n:=fun k=>by
  rw [hs]
  exact uq (fun j=>NB (fm j)) (h0:=hp0) k
 obtain ⟨Z,hZ⟩:∃Z,pre (gm 4294967296 s 0) (m+1)=Z:=⟨_,rfl⟩
 have hZn:∀j,j<m+1->nth Z j=gm 4294967296 s 0 j:=fun j hj=>by rw [<- hZ];exact fk _ (by omega)
 have fin:Z.length=m+1∧All 4294967296 Z∧val 4294967296 Z=val 4294967296 ys*2 ^ n:=by
  refine ⟨by rw [<- hZ,dh],by rw [<- hZ];exact fN fun j _=>ur _ _ _,?_⟩
  have e:=ut 4294967296 s 0 (m+1)
  have e0:chC 4294967296 s 0 (m+1)=0:=by
   have:=jn m
   simp only [chC]
   rw [show s m=0 by rw [hs];show nth ys m*2 ^ n=0;rw [eh ys];simp]
   omega
  rw [e0,hZ,hs,val_mul,eG _ ys (by omega)] at e
  omega
 rw [hm] at h1 ⊢
 have Hm:=hid hm
 have HZn:=hid hZn
 have Fin:=hid fin
 have H3:=hid h3
 have nX:=hid jn
 have Hs:=hid hs
 have Hne:=hid hne
 have Hc:=hid hc
 have ie:=hid fm
 clear hm hZ hZn fin h3 jn hs hne hc fm ay hp hp0
 go_enter func194,ntmps194
 go_wp2_with fail
 go_loopw [6,11] (fun cv i wr=>∃k:Nat,k<=m∧i = .int .i64 k∧cv = .int .u64 (chC 4294967296 s 0 k)∧aJ wr 119 g N (lay c off k .u32 Z)∧w.grownBy wr (some g)∧wr.heap.size=w.heap.size) (fun _ i _=>(m-(intOf i).toNat))
 case atStart=>exact ⟨0,by omega,rfl,rfl,by rw [iq];exact hr,bt _ _,rfl⟩
 case round=>
  obtain ⟨k,hk,rfl,rfl,rr,gr,sr⟩:=hrel
  have Sr:=hid sr
  clear sr
  have f1:wr.frozen? ⟨g,off+k,none⟩=false:=rr.frozen _
  obtain ⟨x0,hx0⟩:=Hc.out k (by omega)
  have c1:wr.cell? ⟨g,off+k,none⟩=some (.int .u32 x0):=by
   rw [rr.cell (by omega),dQ _ _ _,hx0]
  clear hx0
  have HC:=hid (show chC 4294967296 s 0 (k+1)=(chC 4294967296 s 0 k+s k) / 4294967296 from rfl)
  have HD:=hid (show nth Z k=(chC 4294967296 s 0 k+s k) % 4294967296 from HZn.out k (by omega))
  have hcl:=nX.out k
  have hp:=pB hn
  have aaz:chC 4294967296 s 0 k<4294967296:=by omega
  by_cases hlt:k<m
  ·rcases H3.out with h3 | ⟨b,gf,rfl,hbl,hy⟩
   ·have:=Hm.out;rw [h3] at this;simp at this;omega
   have c2:wr.cell? ⟨b,gf+k,none⟩=some (.int .u32 (nth ys k)):=by
    rw [World.cell?_of_block (w:=w) (gr.block b hbl (by simpa [Value.ownBlock] using Hne.out (fun h=>by have:=Hm.out;rw [h] at this;simp at this;omega))),hy k (by rw [Hm.out];omega)]
   clear hy
   have b2:nth ys k<4294967296:=ie.out k
   have i1:(k:Int)<(m:Int):=by omega
   have HO:=hid (FT (chC 4294967296 s 0 k) (nth ys k) n hcl hn b2)
   have HSk:=hid (show s k=nth ys k*2 ^ n by rw [Hs.out])
   generalize chC 4294967296 s 0 k=cr at *
   clear hcl hp
   go_wp2
   go_roundw
   case rel=>
    refine ⟨k+1,by omega,by go_num,int_eq ?_,?_,aR gr (bV _ _ _ _),by simpa using Sr.out⟩
    ·rw [HO.out,HC.out,HSk.out];omega
    ·refine jR rr (int_eq ?_)
     rw [HO.out,HD.out,HSk.out];omega
   case measure=>simp [intOf];omega
  ·obtain rfl:k=m:=by omega
   have HSk:=hid (show s k=0 by rw [Hs.out];show nth ys k*2 ^ n=0;rw [eh ys (h:=(by rw [Hm.out];omega))];simp)
   generalize chC 4294967296 s 0 k=cr at *
   clear hcl hp
   go_wp2
   go_end0
   refine ⟨Z,Fin.out.1,Fin.out.2.1,Fin.out.2.2,rfl,jR rr (int_eq ?_),aR gr (bV _ _ _ _),by simpa using Sr.out⟩
   rw [HD.out,HSk.out]
   omega
theorem NC  (h:aJ w e g N (lay c (off+(k+1)) n .u32 (Z.drop (k+1)))) (hv:v = .int .u32 (nth Z k)) (hm:n+k+1=m:=by omega) :
  aJ (w.setCell ⟨g,off+k,none⟩ v) e g N (lay c (off+k) (m-k) .u32 (Z.drop k)):=by
 refine (h.set (off+k) v).congr fun j _=>?_
 subst hv
 by_cases h1:j=off+k
 ·subst h1
  rw [iZ]
  have:=gQ c (off:=off+k) (n:=m-k) (j:=0) .u32 (Z.drop k)
  rw [Nat.add_zero,iL,Nat.add_zero] at this
  exact this.symm
 ·rw [upd_ne _ _ h1]
  by_cases h2:off+(k+1)<=j∧j<off+(k+1)+n
  ·obtain ⟨i,rfl⟩:∃i,j=off+(k+1)+i:=⟨j-(off+(k+1)),by omega⟩
   rw [gQ _ _ _,iL]
   have:=gQ c (off:=off+k) (n:=m-k) (j:=1+i) .u32 (Z.drop k)
   rw [iL] at this
   rw [show off+(k+1)+i=off+k+(1+i) by omega,this]
   congr 3
   omega
  ·rw [dQ _ _ _,dQ _ _ _]
set_option maxHeartbeats 1000000 in
theorem ND (g off N cap n m:Nat) (vy:Value) (c:Nat->Value) (ys:List Nat) (w:World) (hr:aJ w 119 g N c) (hn:n<32)
  (hc:∀j,j<m->∃x:Nat,c (off+j) = .int .u32 x) (hy:Sl w .u32 vy ys) (hne:ys ≠ []->vy.ownBlock≠some g) (hm:ys.length=m) (ay:All 4294967296 ys) (hN:off+m<=N:=by omega) :
  Calls prog 198 #[.slice (some ⟨g,off,none⟩) m cap,vy,.int .i64 n] w (Wrote w g N off m c (fun Z=>val 4294967296 Z=val 4294967296 ys / 2 ^ n)):=by
 obtain ⟨p,cW,rfl,h1,h2,h3⟩:=hy
 have hp:=pB hn
 have hp0:0<2 ^ n:=Nat.pow_pos (by omega)
 have fm:=bE (by omega) ay
 have hdvd:4294967296 % 2 ^ n=0:=by
  rw [show 4294967296=2 ^ n*2 ^ (32-n) by rw [<- Nat.pow_add,show n+(32-n)=32 by omega]]
  exact Nat.mul_mod_right _ _
 have hdig:∀j,j<m->(nth ys (j+1)*4294967296+nth ys j) / 2 ^ n % 4294967296=nth (am 4294967296 (val 4294967296 ys / 2 ^ n)) j:=fun j hj=>by
  rcases NE hp0 hdvd ys (i:=j) with h | h
  ·exact h
  ·exact absurd ay h
 obtain ⟨Z,hZ⟩:∃Z,pre (nth (am 4294967296 (val 4294967296 ys / 2 ^ n))) m=Z:=⟨_,rfl⟩
 have hZn:∀j,j<m->nth Z j=(nth ys (j+1)*4294967296+nth ys j) / 2 ^ n % 4294967296:=fun j hj=>by rw [hdig j hj,<- hZ];exact fk _ hj
 have fin:Z.length=m∧All 4294967296 Z∧val 4294967296 Z=val 4294967296 ys / 2 ^ n:=by
  refine ⟨by rw [<- hZ,dh],by rw [<- hZ];exact fN fun j _=>bE (by omega) (eC (by omega) _) j,?_⟩
  rw [<- hZ,eG,cN (by omega)]
  refine gl (by omega) m _ ?_
  have:=eu ay
  rw [hm] at this
  exact Nat.lt_of_le_of_lt (Nat.div_le_self _ _) this
 have h63:m<=9223372036854775807:=by omega
 rw [hm] at h1 ⊢
 have Hm:=hid hm
 have HZn:=hid hZn
 have Fin:=hid fin
 have H3:=hid h3
 have Hne:=hid hne
 have Hc:=hid hc
 have ie:=hid fm
 clear hm hZ hZn fin h3 hne hc fm ay hp hp0 hdig hdvd
 go_enter func198,ntmps198
 go_wp2_with fail
 go_loopw [6,7] (fun cv i wr=>∃(k av:Nat) (q:Int),k<=m∧i = .int .i64 q∧q=(k:Int)-1∧cv = .int .u64 av∧Hid (av=nth ys (k+1)*4294967296+nth ys k)∧aJ wr 119 g N (lay c (off+k) (m-k) .u32 (Z.drop k))∧w.grownBy wr (some g)∧wr.heap.size=w.heap.size) (fun _ i _=>(intOf i+1).toNat)
 case atStart=>
  refine ⟨m,0,_,by omega,rfl,rfl,rfl,?_,?_,bt _ _,rfl⟩
  ·show 0=_
   rw [eh ys (h:=(by rw [Hm.out];omega)),eh ys (h:=(by rw [Hm.out];omega))]
  ·rw [Nat.sub_self,iq];exact hr
 case round=>
  obtain ⟨k,av,q,hk,rfl,hq,rfl,hav,rr,gr,sr⟩:=hrel
  have Sr:=hid sr
  clear sr
  cases k with
  | zero=>
   obtain rfl:q = -1:=by omega
   clear hq
   go_wp2
   go_end0
   refine ⟨Z,Fin.out.1,Fin.out.2.1,Fin.out.2.2,rfl,?_,gr,Sr.out⟩
   simpa using rr
  | succ k=>
   obtain rfl:q=(k:Int):=by omega
   clear hq
   rcases H3.out with h3 | ⟨b,gf,rfl,hbl,hy⟩
   ·have:=Hm.out;rw [h3] at this;simp at this;omega
   have c2:wr.cell? ⟨b,gf+k,none⟩=some (.int .u32 (nth ys k)):=by
    rw [World.cell?_of_block (w:=w) (gr.block b hbl (by simpa [Value.ownBlock] using Hne.out (fun h=>by have:=Hm.out;rw [h] at this;simp at this;omega))),hy k (by rw [Hm.out];omega)]
   clear hy
   have f1:wr.frozen? ⟨g,off+k,none⟩=false:=rr.frozen _
   obtain ⟨x0,hx0⟩:=Hc.out k (by omega)
   have c1:wr.cell? ⟨g,off+k,none⟩=some (.int .u32 x0):=by
    rw [rr.cell (by omega),dQ _ _ _,hx0]
   clear hx0
   have b2:nth ys k<4294967296:=ie.out k
   have b3:nth ys (k+1)<4294967296:=ie.out (k+1)
   have b4:nth ys (k+1+1)<4294967296:=ie.out (k+1+1)
   have b5:av<18446744073709551616:=by have:=hav.out;omega
   have i1:(k:Int)<(m:Int):=by omega
   have HD:=hid (show nth Z k=(nth ys (k+1)*4294967296+nth ys k) / 2 ^ n % 4294967296 from HZn.out k (by omega))
   have HO:=hid (sb av (nth ys k) b2)
   have HA:Hid (av % 4294967296=nth ys (k+1)):=by show av % 4294967296=_;have:=hav.out;omega
   clear b4 b5
   go_wp2
   go_roundw
   case rel=>
    refine ⟨k,(av % 4294967296)*4294967296+nth ys k,_,by omega,rfl,rfl,int_eq HO.out,?_,?_,aR gr (bV _ _ _ _),by simpa using Sr.out⟩
    ·show _=_
     rw [HA.out]
    ·refine NC rr (int_eq ?_)
     rw [HO.out,HD.out,HA.out,FU]
     generalize (nth ys (k+1)*4294967296+nth ys k) / 2 ^ n=z
     omega
   case measure=>simp [intOf]
theorem Sl.drop {k:IntKind}{b:Nat} (h:Sl w k (.slice (some ⟨b,off,none⟩) m cap) xs) (n:Nat) (hn:n<xs.length):Sl w k (.slice (some ⟨b,off+n,none⟩) (m-n) (cap-n)) (xs.drop n):=by
 obtain ⟨p',cap',e,h1,h2,h3⟩:=h
 simp only [Value.slice.injEq] at e
 obtain ⟨rfl,rfl,rfl⟩:=e
 have hl:(xs.drop n).length=xs.length-n:=List.length_drop ..
 refine ⟨_,cap-n,by rw [hl],by omega,by omega,?_⟩
 rcases h3 with rfl | ⟨b',off',e,h4,h5⟩
 ·simp at hn
 ·simp only [Option.some.injEq,Addr.mk.injEq,and_true] at e
  obtain ⟨rfl,rfl⟩:=e
  refine .inr ⟨b,off+n,rfl,h4,fun j hj=>?_⟩
  rw [hl] at hj
  rw [iL,Nat.add_assoc]
  exact h5 (n+j) (by omega)
theorem NG  (hx:Sl w .u32 v xs) (ax:All 4294967296 xs) (hlen:xs.length<=8796093022208:=by omega) :
  Calls prog 179 #[v] w fun e w'=>e = .returned (.int .i64 ((am 2 (val 4294967296 xs)).length:Nat))∧w=w':=by
 obtain ⟨p,cap,rfl,h1,h2,hp⟩:=id hx
 have Hx:=hid hx
 have Ht:=hid hx.trim
 have At:=hid (show All 4294967296 (trim xs) from ax.take _)
 have Vx:=hid (show val 4294967296 xs=val 4294967296 (trim xs) from (fV xs).symm)
 have Td:=hid (dH ax)
 have tl:(trim xs).length<=8796093022208:=by have:=fQ xs xs.length;rw [ej];omega
 clear hx ax
 generalize hq:trim xs=a at Ht At Vx tl Td
 have Hq:=hid hq
 clear hq
 by_cases h0:a = []
 ·subst h0
  go_enter func179,ntmps179
  go_wp2_with fail
  refine (eD Hx.out Hq.out).mono ?_
  rintro e w' ⟨rfl,rfl⟩
  go_wp2_with fail
  go_ret
  exact ⟨by rw [Vx.out,val,iM];rfl,rfl⟩
 ·obtain ⟨k,hk⟩:∃k,a.length=k+1:=⟨a.length-1,by have:=List.length_pos_iff.2 h0;omega⟩
  obtain ⟨p',cap',e',g1,g2,g3⟩:=id Ht.out
  simp only [Value.slice.injEq,true_and] at e'
  obtain ⟨rfl,rfl⟩:=e'
  rcases g3 with g3 | ⟨b,off,rfl,hbl,hy⟩
  ·exact absurd g3 h0
  have c1:w.cell? ⟨b,off+k,none⟩=some (.int .u32 (nth a k)):=hy k (by omega)
  have b1:=At.out.nth (j:=k) (by omega)
  have Hn0:=hid (show nth a k≠0 by
   have t:=qs (b:=4294967296) (by omega) (val 4294967296 xs)
   rw [<- Td.out] at t
   rcases t with t | t
   ·exact absurd t h0
   ·rw [hk] at t;exact t)
  have Hk:=hid hk
  rw [hk] at tl
  have He:=hid h0
  clear hy h0 hk g1
  go_enter func179,ntmps179
  go_wp2_with fail
  refine (eD Hx.out Hq.out).mono ?_
  rintro e w' ⟨rfl,rfl⟩
  rw [Hk.out]
  go_wp2_with fail
  refine (wT _ _ (by omega) (by omega)).mono ?_
  rintro e w' ⟨rfl,rfl⟩
  have hbl:=Lib.bitLen_le (nth a k) 32 (by omega) (by omega)
  have hb0:=wW (nth a k) (by have:=Hn0.out;omega)
  have hb1:=wV (nth a k)
  rw [Int.toNat_natCast]
  generalize Lib.bitLen (nth a k)=l at *
  go_wp2_with fail
  go_ret
  refine ⟨gy ?_,rfl⟩
  have hv:val 4294967296 a=val 4294967296 (a.take k)+4294967296 ^ k*nth a k:=by
   have e1:=iN 4294967296 a (k:=k) (h:=(by rw [Hk.out];omega))
   rwa [<- Hk.out,List.take_length] at e1
  have hlt:=eu (At.out.take k)
  rw [List.length_take,Nat.min_eq_left (by rw [Hk.out];omega)] at hlt
  have hp:(4294967296:Nat) ^ k=2 ^ (32*k):=by rw [Nat.pow_mul]
  obtain ⟨m,rfl⟩:∃m,l=m+1:=⟨l-1,by omega⟩
  have hd:=NH (b:=2) (n:=val 4294967296 a) (k:=32*k+m) (by
   rw [Nat.pow_add,<- hp,hv]
   have:=Nat.mul_le_mul_left (4294967296 ^ k) hb0.1
   rw [Nat.add_sub_cancel] at this
   omega) (by
   rw [Nat.add_assoc,Nat.pow_add,<- hp,hv]
   have:=Nat.mul_le_mul_left (4294967296 ^ k) (show nth a k+1<=2 ^ (m+1) from hb1)
   rw [Nat.mul_add] at this
   omega)
  rw [Vx.out,hd]
  omega
def NI (w:World) (g N off n:Nat) (c:Nat->Value) (P:List Nat->Nat->Prop) (en:Ending) (w':World):Prop:=
 ∃(Z:List Nat) (cy:Nat),Z.length=n∧All 4294967296 Z∧cy<4294967296∧P Z cy∧en = .returned (.int .u32 cy)∧aJ w' 119 g N (lay c off n .u32 Z)∧w.grownBy w' (some g)∧w'.heap.size=w.heap.size
set_option maxHeartbeats 1000000 in
theorem NJ (g off N cap n x:Nat) (vy:Value) (c:Nat->Value) (os ys:List Nat) (w:World) (hr:aJ w 119 g N c) (hN:off+n<=N) (hx:x<4294967296)
  (hc:∀j,j<n->c (off+j) = .int .u32 (nth os j)) (ho:os.length=n) (ao:All 4294967296 os)
  (hy:Sl w .u32 vy ys) (hne:ys ≠ []->vy.ownBlock≠some g) (hm:ys.length=n) (ay:All 4294967296 ys) :
  Calls prog 178 #[.slice (some ⟨g,off,none⟩) n cap,vy,.int .u32 x] w
   (NI w g N off n c (fun Z cy=>val 4294967296 Z+4294967296 ^ n*cy=x*val 4294967296 ys+val 4294967296 os)):=by
 obtain ⟨p,cW,rfl,h1,h2,h3⟩:=hy
 have fm:=bE (by omega) ay
 have uu:=bE (by omega) ao
 obtain ⟨s,hs⟩:∃s:Nat->Nat,s=fun j=>nth ys j*x+nth os j:=⟨_,rfl⟩
 have jn:∀k,chC 4294967296 s 0 k<4294967296:=fun k=>by
  refine uq (fun j=>?_) k
  rw [hs]
  show nth ys j*x+nth os j+4294967296<=_
  have a:=fm j
  have b:=uu j
  have:=sc a hx
  omega
 obtain ⟨Z,hZ⟩:∃Z,pre (gm 4294967296 s 0) n=Z:=⟨_,rfl⟩
 have hZn:∀j,j<n->nth Z j=gm 4294967296 s 0 j:=fun j hj=>by rw [<- hZ];exact fk _ (by omega)
 have fin:Z.length=n∧All 4294967296 Z∧val 4294967296 Z+4294967296 ^ n*chC 4294967296 s 0 n=x*val 4294967296 ys+val 4294967296 os:=by
  refine ⟨by rw [<- hZ,dh],by rw [<- hZ];exact fN fun j _=>ur _ _ _,?_⟩
  have e:=ut 4294967296 s 0 n
  rw [hZ,hs,val_add 4294967296 (fun j=>nth ys j*x) (nth os),val_mul,eG _ ys (by omega),eG _ os (by omega),Nat.mul_comm _ x] at e
  rw [hs]
  omega
 rw [hm] at h1 ⊢
 have Hm:=hid hm
 have HZn:=hid hZn
 have Fin:=hid fin
 have H3:=hid h3
 have nX:=hid jn
 have Hs:=hid hs
 have Hne:=hid hne
 have Hc:=hid hc
 have ie:=hid fm
 have NK:=hid uu
 clear hm hZ hZn fin h3 jn hs hne hc fm ay ao uu ho
 go_enter func178,ntmps178
 go_wp2_with fail
 go_loopw [7,12] (fun cv i wr=>∃k:Nat,k<=n∧i = .int .i64 k∧cv = .int .u64 (chC 4294967296 s 0 k)∧aJ wr 119 g N (lay c off k .u32 Z)∧w.grownBy wr (some g)∧wr.heap.size=w.heap.size) (fun _ i _=>(n-(intOf i).toNat))
 case atStart=>exact ⟨0,by omega,rfl,rfl,by rw [iq];exact hr,bt _ _,rfl⟩
 case round=>
  obtain ⟨k,hk,rfl,rfl,rr,gr,sr⟩:=hrel
  have Sr:=hid sr
  clear sr
  have hcl:=nX.out k
  by_cases hlt:k<n
  ·have f1:wr.frozen? ⟨g,off+k,none⟩=false:=rr.frozen _
   have c1:wr.cell? ⟨g,off+k,none⟩=some (.int .u32 (nth os k)):=by
    rw [rr.cell (by omega),dQ _ _ _,Hc.out k hlt]
   have HC:=hid (show chC 4294967296 s 0 (k+1)=(chC 4294967296 s 0 k+s k) / 4294967296 from rfl)
   have HD:=hid (show nth Z k=(chC 4294967296 s 0 k+s k) % 4294967296 from HZn.out k (by omega))
   rcases H3.out with h3 | ⟨b,gf,rfl,hbl,hy⟩
   ·have:=Hm.out;rw [h3] at this;simp at this;omega
   have c2:wr.cell? ⟨b,gf+k,none⟩=some (.int .u32 (nth ys k)):=by
    rw [World.cell?_of_block (w:=w) (gr.block b hbl (by simpa [Value.ownBlock] using Hne.out (fun h=>by have:=Hm.out;rw [h] at this;simp at this;omega))),hy k (by rw [Hm.out];omega)]
   clear hy
   have b2:nth ys k<4294967296:=ie.out k
   have b3:nth os k<4294967296:=NK.out k
   have i1:(k:Int)<(n:Int):=by omega
   have m1:=sd hx b2
   have m2:=se x (nth ys k)
   have HSk:=hid (show (s k:Int)=(x:Int)*(nth ys k:Int)+(nth os k:Int) by rw [Hs.out];show ((nth ys k*x+nth os k:Nat):Int)=_;push_cast;rw [Int.mul_comm])
   generalize chC 4294967296 s 0 k=cr at *
   go_wp2
   go_roundw
   case rel=>
    refine ⟨k+1,by omega,by go_num,int_eq ?_,?_,aR gr (bV _ _ _ _),by simpa using Sr.out⟩
    ·have:=HSk.out;rw [HC.out];omega
    ·refine jR rr (int_eq ?_)
     have:=HSk.out;rw [HD.out];omega
   case measure=>simp [intOf];omega
  ·obtain rfl:k=n:=by omega
   have Fe:=Fin.out
   generalize chC 4294967296 s 0 k=cr at *
   have FE:=hid Fe
   clear Fe
   go_wp2
   go_ret
   exact ⟨Z,cr,FE.out.1,FE.out.2.1,hcl,FE.out.2.2,gy (by omega),rr,gr,Sr.out⟩
theorem NM {Y:List Nat}{cy:Nat}{wv:Value} (hY:Y.length=N) (hk:k+n<N) (hZ:Z.length=n)
  (h:aJ w e g N (lay (fun j=>.int .u32 (nth Y j)) k n .u32 Z)) (hw:w'=w.setCell ⟨g,k+n,none⟩ wv) (hv:wv = .int .u32 cy) :
  aJ w' e g N (fun j=>.int .u32 (nth (patch Y Z k n cy) j)):=by
 subst hw
 subst hv
 refine (h.set (k+n) _).congr fun j hj=>?_
 by_cases h1:j=k+n
 ·subst h1
  rw [iZ,NN hZ]
 ·rw [upd_ne _ _ h1]
  by_cases h2:j<k
  ·rw [dQ _ _ _,NO h2]
  ·by_cases h3:j<k+n
   ·obtain ⟨i,rfl⟩:∃i,j=k+i:=⟨j-k,by omega⟩
    rw [gQ _ _ _,NP hZ]
   ·rw [dQ _ _ _,NQ hZ]
set_option maxHeartbeats 1000000 in
theorem NR  (hx:Sl w .u32 (.slice p xs.length fe) xs) (hy:Sl w .u32 (.slice q ys.length cW) ys)
  (ha:trim xs=a) (hb:trim ys=b) (ha0:a ≠ []) (hb0:b ≠ []) (ax:All 4294967296 xs) (ay:All 4294967296 ys) (hm:a.length+b.length<=8796093022208:=by omega) :
  Calls prog 160 #[.slice p xs.length fe,.slice q ys.length cW] w (Made 119 .u32 w (am 4294967296 (val 4294967296 a*val 4294967296 b))):=by
 obtain ⟨i0,hi,hz0,hz1,hz2⟩:=info_parts Tryz.infoU
 have Hta:=hid (show Sl w .u32 (.slice p a.length fe) a from ha▸hx.trim)
 have Htb:=hid (show Sl w .u32 (.slice q b.length cW) b from hb▸hy.trim)
 have Aa:=hid (show All 4294967296 a from ha▸ax.take _)
 have Ab:=hid (show All 4294967296 b from hb▸ay.take _)
 have la:a.length≠0:=fun h=>ha0 (List.eq_nil_of_length_eq_zero h)
 have lb:b.length≠0:=fun h=>hb0 (List.eq_nil_of_length_eq_zero h)
 have tb:(((a.length:Nat):Int) == 0)=false:=by rw [beq_eq_false_iff_ne];omega
 have tb':(((b.length:Nat):Int) == 0)=false:=by rw [beq_eq_false_iff_ne];omega
 have Hx:=hid hx
 have Hy:=hid hy
 have Ha:=hid ha
 have Hb:=hid hb
 have Ha0:=hid ha0
 have Hb0:=hid hb0
 clear hx hy ha hb ha0 hb0 ax ay
 go_enter func160,ntmps160
 go_wp2_with fail
 refine (eD Hx.out Ha.out).mono ?_
 rintro e w' ⟨rfl,rfl⟩
 go_wp2_with fail
 refine (eD Hy.out Hb.out).mono ?_
 rintro e w' ⟨rfl,rfl⟩
 go_wp2_with (at_make;refine gR rfl _ _ 25 rfl 119 i0 (.int .u32 0) underlying25 hi hz0 hz1 rfl _ _ _ _ (a.length+b.length) (a.length+b.length) rfl rfl (Nat.le_refl _) ?_;intro w1 r1 g1 s1;have R1:=hid r1;have G1:=hid g1;clear r1 g1)
 go_loopw [28] (fun i wr=>∃(k:Nat) (Y:List Nat),k<=a.length∧i = .int .i64 k∧w.grownBy wr none∧w.heap.size<wr.heap.size∧Y.length=a.length+b.length∧All 4294967296 Y∧val 4294967296 Y=val 4294967296 (a.take k)*val 4294967296 b ∧
   val 4294967296 (Y.drop (k+b.length))=0∧aJ wr 119 w.heap.size (a.length+b.length) (fun j=>.int .u32 (nth Y j))) (fun i _=>(a.length-(intOf i).toNat))
 case atStart=>
  refine ⟨0,List.replicate (a.length+b.length) 0,by omega,rfl,G1.out,by omega,by simp,All.kT (by omega) _,by rw [jQ];simp [val],?_,R1.out.congr fun j hj=>?_⟩
  ·rw [List.drop_replicate,jQ]
  ·simp [nth,hj]
 case round=>
  obtain ⟨k,Y,hk,rfl,gr,sr,yl,ya,yv,yz,rr⟩:=hrel
  have Yl:=hid yl
  have Ya:=hid ya
  have Yv:=hid yv
  have Yz:=hid yz
  have Gr:=hid gr
  by_cases hlt:k<a.length
  ·obtain ⟨p',cap',e',h1,h2,h3⟩:=id Hta.out
   have hpp:p'=p:=by cases e';rfl
   subst hpp
   rcases h3 with h3 | ⟨bb,off,rfl,hbl,hyy⟩
   ·exact absurd h3 Ha0.out
   have c1:wr.cell? ⟨bb,off+k,none⟩=some (.int .u32 (nth a k)):=by
    rw [World.cell?_of_block (w:=w) (gr.block bb hbl (by simp)),hyy k hlt]
   have b1:nth a k<4294967296:=Aa.out.nth hlt
   have i1:(k:Int)<(a.length:Int):=by omega
   have i2:(k:Int)<=(k:Int)+(b.length:Int):=by omega
   have i3:k<=k+b.length:=by omega
   have i4:(k:Int)+(b.length:Int)<=(a.length:Int)+(b.length:Int):=by omega
   have i5:k+b.length<=a.length+b.length:=by omega
   have NS:k+b.length<a.length+b.length:=by omega
   have i6:(k:Int)+(b.length:Int)<(a.length:Int)+(b.length:Int):=by omega
   have hk0:¬a.length+b.length=k:=by omega
   have Rr:=hid rr
   clear hyy e' h1 yl ya yv yz gr rr
   go_wp2_with fail
   refine (NJ w.heap.size k (a.length+b.length) (a.length+b.length-k) b.length (nth a k) _ _ ((Y.drop k).take b.length) b wr Rr.out i5 b1 ?_ ?_ ((Ya.out.drop _).take _) (Htb.out.grown Gr.out (.inl rfl)) ?_ rfl Ab.out).mono ?_
   ·intro j hj
    rw [fr _ hj,iL]
   ·rw [List.length_take,List.length_drop,Yl.out];omega
   ·intro h e
    have:=Htb.out.block_lt h _ e
    omega
   ·intro e w2 hwc
    obtain ⟨Z,cy,z1,z2,z3,z4,rfl,fD,gI,Bu⟩:=hwc
    have c2:w2.cell? ⟨w.heap.size,k+b.length,none⟩=some (.int .u32 (nth Y (k+b.length))):=by
     rw [fD.cell (by omega),dQ _ _ _]
    have f2:w2.frozen? ⟨w.heap.size,k+b.length,none⟩=false:=fD.frozen _
    have Z1:=hid z1
    have Z4:=hid z4
    have Pv:=hid (NT (T:=nth a k*val 4294967296 b) (by rw [Yl.out];omega) Yz.out z1)
    have NU:=hid (cK Gr.out gI (Nat.le_refl _))
    have Rr2:=hid fD
    have S2:=hid Bu
    clear z1 z4 gI fD Bu
    go_wp2_with fail
    go_roundw
    case rel=>
     refine ⟨k+1,patch Y Z k b.length cy,by omega,by go_num,cK NU.out (bV _ _ _ _) (Nat.le_refl _),by simp;rw [S2.out];exact sr,?_,NV Ya.out z2 z3,?_,Pv.out.2,NM Yl.out NS Z1.out Rr2.out rfl rfl⟩
     ·rw [NW (by rw [Yl.out];omega) Z1.out,Yl.out]
     ·rw [Pv.out.1,Yv.out,iN _ _ (h:=hlt),Nat.add_mul,Nat.mul_assoc]
    case measure=>simp [intOf];omega
  ·obtain rfl:k=a.length:=by omega
   have ho:Own wr 119 .u32 w.heap.size (.slice (some ⟨w.heap.size,0,none⟩) (a.length+b.length) (a.length+b.length)) Y:=
    .inr ⟨w.heap.size,_,_,by rw [yl],Nat.le_refl _,rr,by omega,by omega,fun j _=>rfl⟩
   have Ho:=hid ho
   clear ho yl ya yv yz gr rr
   go_wp2_with fail
   refine (ia _ _ _ Y _ Ho.out.sl).mono ?_
   rintro e w'' ⟨rfl,rfl⟩
   go_wp2_with fail
   go_ret
   refine ⟨_,rfl,?_,Gr.out⟩
   have hv:=Yv.out
   rw [List.take_length] at hv
   rw [<- hv,<- dH Ya.out]
   exact Ho.out.trim
theorem NX  (hx:Sl w .u32 (.slice p xs.length fe) xs) (hy:Sl w .u32 (.slice q ys.length cW) ys)
  (ha:trim xs = []) (hb:trim ys=b) :
  Calls prog 160 #[.slice p xs.length fe,.slice q ys.length cW] w (Made 119 .u32 w []):=by
 have Hx:=hid hx
 have Hy:=hid hy
 have Ha:=hid ha
 have Hb:=hid hb
 clear hx hy ha hb
 go_enter func160,ntmps160
 go_wp2_with fail
 refine (eD Hx.out Ha.out).mono ?_
 rintro e w' ⟨rfl,rfl⟩
 go_wp2_with fail
 refine (eD Hy.out Hb.out).mono ?_
 rintro e w' ⟨rfl,rfl⟩
 go_wp2_with fail
 go_ret
 exact ⟨_,rfl,Own.nil _ _ _ _,bt _ _⟩
theorem NY  (hx:Sl w .u32 (.slice p xs.length fe) xs) (hy:Sl w .u32 (.slice q ys.length cW) ys)
  (ha:trim xs=a) (hb:trim ys = []) (ha0:a ≠ []) :
  Calls prog 160 #[.slice p xs.length fe,.slice q ys.length cW] w (Made 119 .u32 w []):=by
 have la:a.length≠0:=fun h=>ha0 (List.eq_nil_of_length_eq_zero h)
 have tb:(((a.length:Nat):Int) == 0)=false:=by rw [beq_eq_false_iff_ne];omega
 have Hx:=hid hx
 have Hy:=hid hy
 have Ha:=hid ha
 have Hb:=hid hb
 clear hx hy ha hb ha0
 go_enter func160,ntmps160
 go_wp2_with fail
 refine (eD Hx.out Ha.out).mono ?_
 rintro e w' ⟨rfl,rfl⟩
 go_wp2_with fail
 refine (eD Hy.out Hb.out).mono ?_
 rintro e w' ⟨rfl,rfl⟩
 go_wp2_with fail
 go_ret
 exact ⟨_,rfl,Own.nil _ _ _ _,bt _ _⟩
theorem NZ  (hx:Sl w .u32 v xs) (hy:Sl w .u32 u ys) (ax:All 4294967296 xs) (ay:All 4294967296 ys) (lx:xs.length<=4398046511104:=by omega) (ly:ys.length<=4398046511104:=by omega) :
  Calls prog 160 #[v,u] w (Made 119 .u32 w (am 4294967296 (val 4294967296 xs*val 4294967296 ys))):=by
 obtain ⟨p,cap,rfl,-⟩:=id hx
 obtain ⟨q,cW,rfl,-⟩:=id hy
 have tx:(trim xs).length<=xs.length:=by rw [ej];exact fQ _ _
 have ty:(trim ys).length<=ys.length:=by rw [ej];exact fQ _ _
 rw [<- fV (b:=4294967296) xs,<- fV (b:=4294967296) ys]
 by_cases ha:trim xs = []
 ·rw [ha,val,Nat.zero_mul]
  exact NX hx hy ha rfl
 ·by_cases hb:trim ys = []
  ·rw [hb,val,Nat.mul_zero]
   exact NY hx hy rfl hb ha
  ·exact NR hx hy rfl rfl ha hb ax ay
def Bv (w:World) (q r:Nat) (en:Ending) (w':World):Prop:=
 ∃v u,en = .returned (.tuple #[v,u])∧Own w' 119 .u32 w.heap.size v (am 4294967296 q)∧Own w' 119 .u32 w.heap.size u (am 4294967296 r)∧v.ownBlock≠u.ownBlock∧w.grownBy w' none
set_option maxHeartbeats 1000000 in
theorem Oe  (d:Nat) (hx:Sl w .u32 v xs) (ax:All 4294967296 xs) (hd0:0<d) (hd:d<4294967296) (hlen:xs.length<=8796093022208) :
  Calls prog 187 #[v,.int .u32 d] w (Bv w (val 4294967296 xs / d) (val 4294967296 xs % d)):=by
 obtain ⟨p,cap,rfl,h1,h2,h3⟩:=id hx
 obtain ⟨i0,hi,hz0,hz1,hz2⟩:=info_parts Tryz.infoU
 have Hx:=hid hx
 have Ax:=hid ax
 have H3:=hid h3
 clear hx ax h3
 obtain ⟨n,hn⟩:∃n,xs.length=n:=⟨_,rfl⟩
 rw [hn] at hlen h1 ⊢
 have Hn:=hid hn
 clear hn
 go_enter func187,ntmps187
 go_wp2_with (at_make;refine gR rfl _ _ 25 rfl 119 i0 (.int .u32 0) underlying25 hi hz0 hz1 rfl _ _ _ _ n n rfl rfl (Nat.le_refl _) ?_;intro w1 r1 g1 s1;have R1:=hid r1;have G1:=hid g1;clear r1 g1)
 go_loopw [6,7] (fun cv i wr=>∃(k r:Nat) (q:Int) (Z:List Nat),k<=n∧i = .int .i64 q∧q=(k:Int)-1∧cv = .int .u32 r∧r<d∧Z.length=n∧All 4294967296 Z ∧
   val 4294967296 (xs.drop k)=val 4294967296 (Z.drop k)*d+r∧aJ wr 119 w.heap.size n (fun j=>.int .u32 (nth Z j))∧w.grownBy wr none∧w.heap.size<wr.heap.size) (fun _ i _=>(intOf i+1).toNat)
 case atStart=>
  refine ⟨n,0,_,List.replicate n 0,by omega,rfl,rfl,rfl,hd0,by simp,All.kT (by omega) _,?_,R1.out.congr fun j hj=>by simp [nth,hj],G1.out,by omega⟩
  rw [List.drop_of_length_le (by rw [Hn.out];omega),List.drop_replicate,jQ]
  simp [val]
 case round=>
  obtain ⟨k,r,q,Z,hk,rfl,hq,rfl,hr,zl,za,hv,rr,gr,sr⟩:=hrel
  have Zl:=hid zl
  have Za:=hid za
  have Hv:=hid hv
  have Gr:=hid gr
  cases k with
  | zero=>
   obtain rfl:q = -1:=by omega
   have ho:Own wr 119 .u32 w.heap.size (.slice (some ⟨w.heap.size,0,none⟩) n n) Z:=
    .inr ⟨w.heap.size,_,_,by rw [zl],Nat.le_refl _,rr,by omega,by omega,fun j _=>rfl⟩
   have Ho:=hid ho
   clear ho zl za hv gr rr hq
   go_wp2_with fail
   refine (ia _ _ _ Z _ Ho.out.sl).mono ?_
   rintro e w'' ⟨rfl,rfl⟩
   go_wp2_with fail
   have hro:Own (wr.alloc (.cells #[.int .u32 r] 119)) 119 .u32 wr.heap.size (.slice (some ⟨wr.heap.size,0,none⟩) 1 1) [r]:=by
    refine .inr ⟨wr.heap.size,1,fun _=>.int .u32 r,rfl,Nat.le_refl _,?_,Nat.le_refl _,by omega,fun j hj=>?_⟩
    ·exact aJ.made wr #[.int .u32 r] 119 _ (fun j hj=>by
      have:j=0:=by simpa using hj
      subst this;rfl)
    ·have:j=0:=by simpa using hj
     subst this;rfl
   have Bw:=hid hro
   clear hro
   refine (ia _ _ _ [r] _ Bw.out.sl).mono ?_
   rintro e w'' ⟨rfl,rfl⟩
   go_wp2_with fail
   go_ret2
   have hv:=Hv.out
   simp only [List.drop_zero] at hv
   have e1:val 4294967296 xs / d=val 4294967296 Z:=by
    rw [hv,Nat.mul_comm,Nat.mul_add_div hd0,Nat.div_eq_of_lt hr];omega
   have e2:val 4294967296 xs % d=r:=by
    rw [hv,Nat.mul_comm,Nat.mul_add_mod,Nat.mod_eq_of_lt hr]
   have e3:val 4294967296 [r]=r:=by simp [val]
   refine ⟨_,_,rfl,?_,?_,?_,aR Gr.out (bg _ _ _)⟩
   ·rw [e1,<- dH Za.out]
    exact Ho.out.trim.grown (bg _ _ none) (.inl rfl)
   ·rw [e2,<- e3,<- dH (b:=4294967296) (All.cons (by omega) (All.nil _))]
    exact Bw.out.trim.mono (by omega)
   ·simp [Value.ownBlock];omega
  | succ k=>
   obtain rfl:q=(k:Int):=by omega
   rcases H3.out with h3 | ⟨b,off,rfl,hbl,hy⟩
   ·have:=Hn.out;rw [h3] at this;simp at this;omega
   have c1:wr.cell? ⟨b,off+k,none⟩=some (.int .u32 (nth xs k)):=by
    rw [World.cell?_of_block (w:=w) (gr.block b hbl (by simp)),hy k (by rw [Hn.out];omega)]
   have b1:nth xs k<4294967296:=Ax.out.nth (by rw [Hn.out];omega)
   have f1:wr.frozen? ⟨w.heap.size,k,none⟩=false:=rr.frozen _
   have c2:wr.cell? ⟨w.heap.size,k,none⟩=some (.int .u32 (nth Z k)):=rr.cell (by omega)
   have i1:(k:Int)<(n:Int):=by omega
   have Rr:=hid rr
   clear hy zl za hv gr rr hq
   go_wp2_with fail
   refine (FZ r (nth xs k) d _ hr b1 hd).mono ?_
   rintro e w' ⟨rfl,dn,rfl⟩
   have hqd:(r*4294967296+nth xs k) / d<4294967296:=by rw [Nat.div_lt_iff_lt_mul hd0];omega
   have hrd:(r*4294967296+nth xs k) % d<d:=Nat.mod_lt _ hd0
   have hqr:=Nat.div_add_mod (r*4294967296+nth xs k) d
   generalize (r*4294967296+nth xs k) / d=qd at *
   generalize (r*4294967296+nth xs k) % d=rd at *
   have Hqr:=hid hqr
   clear hqr
   go_wp2_with fail
   go_roundw
   case rel=>
    refine ⟨k,rd,_,Z.set k qd,by omega,rfl,rfl,rfl,hrd,by rw [List.length_set,Zl.out],Za.out.set hqd k,?_,?_,cK (aR Gr.out (ic _ _ _)) (bV _ _ _ _) (Nat.le_refl _),by simpa using sr⟩
    ·rw [nY _ (by rw [Zl.out];omega),fa _ _ (by rw [Hn.out];omega),Hv.out]
     have:=Hqr.out
     rw [Nat.add_mul,Nat.mul_add,Nat.mul_assoc,Nat.mul_comm qd d]
     omega
    ·refine (aJ.set (w:=wr.drewN dn) Rr.out k _).congr fun j hj=>?_
     by_cases hjk:j=k
     ·subst hjk
      rw [iZ,ms _ (by rw [Zl.out];omega)]
     ·rw [upd_ne _ _ hjk,qL _ _ hjk]
   case measure=>simp [intOf]
def nZ (w:World) (m n:Nat) (en:Ending) (w':World):Prop:=
 (n=0∧en = .returned (.tuple #[.slice none 0 0,.slice none 0 0,.int .i64 2])∧w.grownBy w' none) ∨
 (n≠0∧∃v u,en = .returned (.tuple #[v,u,.int .i64 0])∧Own w' 119 .u32 w.heap.size v (am 4294967296 (m / n))∧Own w' 119 .u32 w.heap.size u (am 4294967296 (m % n)) ∧
  (v.ownBlock=none∨v.ownBlock≠u.ownBlock)∧w.grownBy w' none)
theorem Of  (m:Nat) (hx:Sl w .u32 (.slice p xs.length fe) xs) (hy:Sl w .u32 (.slice q ys.length cW) ys)
  (hb:trim ys = []) :
  Calls prog 175 #[.slice p xs.length fe,.slice q ys.length cW] w (nZ w m 0):=by
 have Hx:=hid hx
 have Hy:=hid hy
 have Hb:=hid hb
 clear hx hy hb
 go_enter func175,ntmps175
 go_wp2_with fail
 refine (ia _ _ _ _ _ Hx.out).mono ?_
 rintro e w' ⟨rfl,rfl⟩
 go_wp2_with fail
 refine (eD Hy.out Hb.out).mono ?_
 rintro e w' ⟨rfl,rfl⟩
 go_wp2_with fail
 go_ret3
 exact .inl ⟨rfl,rfl,bt _ _⟩
theorem Og  (hx:Sl w .u32 (.slice p xs.length fe) xs) (hy:Sl w .u32 (.slice q ys.length cW) ys)
  (ha:trim xs=a) (hb:trim ys=b) (hlt:a.length<b.length) (ax:All 4294967296 xs) (ay:All 4294967296 ys) (lx:xs.length<=8796093022208) :
  Calls prog 175 #[.slice p xs.length fe,.slice q ys.length cW] w (nZ w (val 4294967296 a) (val 4294967296 b)):=by
 have Hx:=hid hx
 have Hy:=hid hy
 have Hta:=hid (show Sl w .u32 (.slice p a.length fe) a from ha▸hx.trim)
 have Aa:=hid (show All 4294967296 a from ha▸ax.take _)
 have la:a.length<=8796093022208:=by have:=fQ xs xs.length;rw [<- ha,ej];omega
 have Hv:=hid (show val 4294967296 a<val 4294967296 b by
  have e1:=dH ax
  have e2:=dH ay
  rw [ha] at e1
  rw [hb] at e2
  rw [e1,e2] at hlt
  rw [<- ha,<- hb,fV,fV]
  exact mq hlt)
 have Ha:=hid ha
 have Hb:=hid hb
 have tb:(((b.length:Nat):Int) == 0)=false:=by rw [beq_eq_false_iff_ne];omega
 clear hx hy ha hb ax ay
 go_enter func175,ntmps175
 go_wp2_with fail
 refine (eD Hx.out Ha.out).mono ?_
 rintro e w' ⟨rfl,rfl⟩
 go_wp2_with fail
 refine (eD Hy.out Hb.out).mono ?_
 rintro e w' ⟨rfl,rfl⟩
 go_wp2_with fail
 refine (qq Hta.out (by omega)).mono ?_
 rintro e w1 ⟨u,rfl,ho,hg⟩
 have Ho:=hid ho
 have Hg:=hid hg
 clear ho hg
 go_wp2_with fail
 go_ret3
 have hv:=Hv.out
 refine .inr ⟨by omega,_,_,rfl,?_,?_,.inl rfl,Hg.out⟩
 ·rw [Nat.div_eq_of_lt hv];exact Own.nil _ _ _ _
 ·rw [Nat.mod_eq_of_lt hv,<- dH Aa.out];exact Ho.out
theorem Oh {d:Nat} (hx:Sl w .u32 (.slice p xs.length fe) xs) (hy:Sl w .u32 (.slice q ys.length cW) ys)
  (ha:trim xs=a) (hb:trim ys = [d]) (ax:All 4294967296 xs) (ay:All 4294967296 ys) (lx:xs.length<=8796093022208) (hge:1<=a.length:=by omega) :
  Calls prog 175 #[.slice p xs.length fe,.slice q ys.length cW] w (nZ w (val 4294967296 a) d):=by
 have Hx:=hid hx
 have Hy:=hid hy
 have Hta:=hid (show Sl w .u32 (.slice p a.length fe) a from ha▸hx.trim)
 have Aa:=hid (show All 4294967296 a from ha▸ax.take _)
 have la:a.length<=8796093022208:=by have:=fQ xs xs.length;rw [<- ha,ej];omega
 have Htb:Sl w .u32 (.slice q 1 cW) [d]:=by have:=hy.trim;rw [hb] at this;exact this
 have e2:=dH ay
 have hd0:0<d:=by
  have t:=qs (b:=4294967296) (by omega) (val 4294967296 ys)
  rw [<- e2,hb] at t
  rcases t with t | t
  ·cases t
  ·simp [nth] at t;omega
 have hd:d<4294967296:=by
  have:=eC (b:=4294967296) (by omega) (val 4294967296 ys)
  rw [<- e2,hb] at this
  exact this.head
 obtain ⟨q',cap',e',-,-,h3⟩:=Htb
 have hqq:q'=q:=by cases e';rfl
 subst hqq
 rcases h3 with h3 | ⟨bb,off,rfl,hbl,hyy⟩
 ·cases h3
 have c1:=hyy 0 (by simp)
 rw [show nth [d] 0=d from rfl,Nat.add_zero] at c1
 have Ha:=hid ha
 have Hb:=hid hb
 have tb:decide (a.length<1)=false:=decide_eq_false (by omega)
 have tb2:¬(a.length<1):=by omega
 clear hx hy ha hb ax ay hyy e' e2
 go_enter func175,ntmps175
 go_wp2_with fail
 refine (eD Hx.out Ha.out).mono ?_
 rintro e w' ⟨rfl,rfl⟩
 go_wp2_with fail
 refine (eD Hy.out Hb.out).mono ?_
 rintro e w' ⟨rfl,rfl⟩
 go_wp2_with fail
 refine (Oe d Hta.out Aa.out hd0 hd la).mono ?_
 rintro e w1 ⟨v,u,rfl,ho,hu,hne,hg⟩
 have Ho:=hid ho
 have Hu:=hid hu
 have Hne:=hid hne
 have Hg:=hid hg
 clear ho hu hne hg
 go_wp2_with fail
 go_ret3
 exact .inr ⟨by omega,_,_,rfl,Ho.out,Hu.out,.inr Hne.out,Hg.out⟩
theorem Oi  (hn:n<=cap) :
  Calls prog 130 #[.slice p n cap,.int .i64 k] w fun e w'=>e = .returned (.slice p (min n k) cap)∧w=w':=by
 by_cases h:n<=k
 ·have h1:¬(k:Int)<(n:Int):=by omega
  have h2:¬k<n:=by omega
  have h3:(0:Int)<=(n:Int):=by omega
  go_enter func130,ntmps130
  go_wp2_with fail
  go_ret
  exact ⟨rfl,rfl⟩
 ·have h1:(k:Int)<(n:Int):=by omega
  have h2:k<n:=by omega
  have h3:k<=cap:=by omega
  go_enter func130,ntmps130
  go_wp2_with fail
  go_ret
  exact ⟨by rw [Nat.min_eq_right (by omega)];rfl,rfl⟩
theorem Oj  (hx:Sl w .u32 v xs) (hy:Sl w .u32 u ys) (ax:All 4294967296 xs) (ay:All 4294967296 ys) :
  Calls prog 162 #[v,u] w fun e w'=>e = .returned (.int .i64 (cT (val 4294967296 xs) (val 4294967296 ys)))∧w.grownBy w' none:=
 (ug hx hy ax ay).mono fun _ _ ⟨h,n,hw⟩=>⟨h,by rw [hw];exact ic _ _ _⟩
theorem Own.one (w:World) (k:IntKind) (e:TypeId) (x:Nat):Own (w.alloc (.cells #[.int k x] e)) e k w.heap.size (.slice (some ⟨w.heap.size,0,none⟩) 1 1) [x]:=by
 refine .inr ⟨w.heap.size,1,fun _=>.int k x,rfl,Nat.le_refl _,?_,Nat.le_refl _,by omega,fun j hj=>?_⟩
 ·exact aJ.made w #[.int k x] e _ (fun j hj=>by
   have:j=0:=by simpa using hj
   subst this;rfl)
 ·have:j=0:=by simpa using hj
  subst this;rfl
def ud (w:World) (b:Bool) (en:Ending) (w':World):Prop:=en = .returned (.bool b)∧w.grownBy w' none
end Go.Proofs.YtbjfgffibepmkaaGreat
