/- Package limb, the readers: trim, sign, Cmp: each returns what the numbers say and leaves memory as it was. Package li .. -/
import Derived.Test.YtomamliepbhegaaBase
import Derived.Deep.QuietTactic
import Derived.BigQuiet
namespace Go.Proofs.Ytomamliepbhegaa
open Go.RowKit
def lenOf:Value->Nat | .slice _ n _=>n | _=>0
theorem sN {x:Nat} (h:x=0):(((x:Nat):Int) == 0)=true:=by subst h;rfl
theorem sO {x:Nat} (h:¬x=0):(((x:Nat):Int) == 0)=false:=by
 rw [beq_eq_false_iff_ne];omega
set_option maxHeartbeats 400000 in
theorem NF (b off n cap:Nat) (xs:List Nat) (w:World) (hn:n<=xs.length) (hcap:n<=cap) (hm:cap<=9223372036854775807)
  (hc:∀j,j<xs.length->w.cell? ⟨b,off+j,none⟩=some (.int .u32 (nth xs j))) :
  Calls Try.prog 87 #[.slice (some ⟨b,off,none⟩) n cap] w fun e w'=>e = .returned (.slice (some ⟨b,off,none⟩) (cH xs n) cap)∧w=w':=by
 go_enter Try.func87,Try.ntmps87
 go_wp2
 go_loop [0] (fun v=>∃k:Nat,k<=n∧v = .slice (some ⟨b,off,none⟩) k cap∧cH xs k=cH xs n) (fun v=>lenOf v)
 case atStart=>exact ⟨n,by omega,rfl,rfl⟩
 case round=>
  obtain ⟨k,hk,rfl,ht⟩:=hrel
  have HT:=Lib.hid ht
  clear ht
  cases k with
  | zero=>
   go_wp2
   go_ret
   exact ⟨by rw [<- HT.out];rfl,rfl⟩
  | succ k=>
   have hcell:=hc k (by omega)
   clear hc
   have hkc:k<=cap:=by omega
   by_cases h0:nth xs k=0
   ·have hb:=sN h0
    have HZ:=Lib.hid h0
    clear h0
    go_wp2
    go_round
    case rel=>exact ⟨k,by omega,rfl,by rw [<- HT.out];simp [cH,HZ.out]⟩
    case measure=>simp [lenOf]
   ·have hb:=sO h0
    go_wp2
    go_ret
    exact ⟨by rw [<- HT.out];simp [cH,h0],rfl⟩
set_option maxHeartbeats 400000 in
theorem NG (p:Option Addr) (cap:Nat) (w:World) :
  Calls Try.prog 87 #[.slice p 0 cap] w fun e w'=>e = .returned (.slice p 0 cap)∧w=w':=by
 go_enter Try.func87,Try.ntmps87
 go_wp2
 refine wp_loop_rounds 1 ?_
 rw [rounds_succ]
 go_wp2
 go_ret
 exact ⟨rfl,rfl⟩
theorem iK (p:Option Addr) (n cap:Nat) (xs:List Nat) (w:World) (h:Sl w .u32 (.slice p n cap) xs) :
  Calls Try.prog 87 #[.slice p n cap] w fun e w'=>e = .returned (.slice p (trim xs).length cap)∧w=w':=by
 obtain ⟨p',cap',e,h1,h2,h3⟩:=h
 simp only [Value.slice.injEq] at e
 obtain ⟨rfl,rfl,rfl⟩:=e
 rw [cU]
 rcases h3 with rfl | ⟨b,off,rfl,h4,h5⟩
 ·exact NG _ _ _
 ·exact NF b off xs.length cap xs w (Nat.le_refl _) h1 h2 h5
theorem NH (w:World):Calls Try.prog 92 #[.bool true] w fun e w'=>e = .returned (.int .i64 1)∧w=w':=by
 go_enter Try.func92,Try.ntmps92
 go_wp2
 go_ret
 exact ⟨rfl,rfl⟩
theorem NI (w:World):Calls Try.prog 92 #[.bool false] w fun e w'=>e = .returned (.int .i64 (-1))∧w=w':=by
 go_enter Try.func92,Try.ntmps92
 go_wp2
 go_ret
 exact ⟨rfl,rfl⟩
def gE:Bool->Int | true=>1 | false=>-1
theorem sP {p:Prop} [Decidable p] (h:p):gE (decide p)=1:=by rw [decide_eq_true h];rfl
theorem sQ {p:Prop} [Decidable p] (h:¬p):gE (decide p) = -1:=by rw [decide_eq_false h];rfl
theorem sR (b:Bool) (w:World):Calls Try.prog 92 #[.bool b] w fun e w'=>e = .returned (.int .i64 (gE b))∧w=w':=by
 cases b
 ·exact NI w
 ·exact NH w
theorem dP {p:Option Addr}{n cap:Nat}{xs a:List Nat}{w:World} (h:Sl w .u32 (.slice p n cap) xs) (ha:trim xs=a) :
  Calls Try.prog 87 #[.slice p n cap] w fun e w'=>e = .returned (.slice p a.length cap)∧w=w':=by
 subst ha
 exact iK p n cap xs w h
set_option maxHeartbeats 400000 in
theorem NJ (p q:Option Addr) (n m cap cap':Nat) (xs ys a c:List Nat) (w:World) (hx:Sl w .u32 (.slice p n cap) xs) (hy:Sl w .u32 (.slice q m cap') ys)
  (ha:trim xs=a) (hc:trim ys=c) (hne:a.length≠c.length) :
  Calls Try.prog 73 #[.slice p n cap,.slice q m cap'] w fun e w'=>e = .returned (.int .i64 (gE (decide (c.length<a.length))))∧∃n,w'=w.drewN n:=by
 have Hx:=Lib.hid hx
 have Hy:=Lib.hid hy
 have Ha:=Lib.hid ha
 have Hc:=Lib.hid hc
 clear hx hy ha hc
 go_enter Try.func73,Try.ntmps73
 go_wp2_with fail
 refine (dP Hx.out Ha.out).mono ?_
 rintro e w' ⟨rfl,rfl⟩
 go_wp2_with fail
 refine (dP Hy.out Hc.out).mono ?_
 rintro e w' ⟨rfl,rfl⟩
 go_wp2_with fail
 refine (sR _ _).mono ?_
 rintro e w' ⟨rfl,rfl⟩
 go_wp2_with fail
 go_ret
 exact ⟨rfl,0,rfl⟩
set_option maxHeartbeats 400000 in
theorem NK (p q:Option Addr) (n m cap cap':Nat) (xs ys:List Nat) (w:World) (hx:Sl w .u32 (.slice p n cap) xs) (hy:Sl w .u32 (.slice q m cap') ys)
  (ha:trim xs = []) (hc:trim ys = []) :
  Calls Try.prog 73 #[.slice p n cap,.slice q m cap'] w fun e w'=>e = .returned (.int .i64 0)∧∃n,w'=w.drewN n:=by
 have Hx:=Lib.hid hx
 have Hy:=Lib.hid hy
 have Ha:=Lib.hid ha
 have Hc:=Lib.hid hc
 clear hx hy ha hc
 go_enter Try.func73,Try.ntmps73
 go_wp2_with fail
 refine (dP Hx.out Ha.out).mono ?_
 rintro e w' ⟨rfl,rfl⟩
 go_wp2_with fail
 refine (dP Hy.out Hc.out).mono ?_
 rintro e w' ⟨rfl,rfl⟩
 go_wp2_with fail
 refine wp_loop_rounds 1 ?_
 rw [rounds_succ]
 go_wp2
 go_ret
 exact ⟨rfl,0,rfl⟩
set_option maxHeartbeats 400000 in
theorem cmp_eq (b off cap b' off' cap' m n: Nat) (xs ys a c:List Nat) (w:World) (hx:Sl w .u32 (.slice (some ⟨b,off,none⟩) n cap) xs) (hy:Sl w .u32 (.slice (some ⟨b',off',none⟩) m cap') ys)
  (ha:trim xs=a) (hc:trim ys=c) (heq:a.length=c.length) (hlen:a.length<=9223372036854775807)
  (hca:∀j,j<a.length->w.cell? ⟨b,off+j,none⟩=some (.int .u32 (nth a j))) (hcc:∀j,j<c.length->w.cell? ⟨b',off'+j,none⟩=some (.int .u32 (nth c j))) (all:All 4294967296 a) (all':All 4294967296 c) :
  Calls Try.prog 73 #[.slice (some ⟨b,off,none⟩) n cap,.slice (some ⟨b',off',none⟩) m cap'] w fun e w'=>e = .returned (.int .i64 (bZ (val 4294967296 a) (val 4294967296 c)))∧∃n,w'=w.drewN n:=by
 have Hx:=Lib.hid hx
 have Hy:=Lib.hid hy
 have Ha:=Lib.hid ha
 have Hc:=Lib.hid hc
 have He:=Lib.hid heq
 have L1:a.length<=c.length:=by omega
 have L2:c.length<=a.length:=by omega
 have Al:=Lib.hid all
 have nV:=Lib.hid all'
 clear hx hy ha hc heq all all'
 go_enter Try.func73,Try.ntmps73
 go_wp2_with fail
 refine (dP Hx.out Ha.out).mono ?_
 rintro e w' ⟨rfl,rfl⟩
 go_wp2_with fail
 refine (dP Hy.out Hc.out).mono ?_
 rintro e w' ⟨rfl,rfl⟩
 rw [<- He.out]
 go_wp2_with fail
 go_loopw [5] (fun i wr=>∃(k n:Nat) (q:Int),k<=a.length∧i = .int .i64 q∧q=(k:Int)-1∧wr=w.drewN n∧a.drop k=c.drop k) (fun i _=>(intOf i+1).toNat)
 case atStart=>exact ⟨a.length,0,_,Nat.le_refl _,rfl,rfl,rfl,by rw [List.drop_length,He.out,List.drop_length]⟩
 case round=>
  obtain ⟨k,d,q,hk,rfl,hq,rfl,hdr⟩:=hrel
  have HD:=Lib.hid hdr
  clear hdr
  cases k with
  | zero=>
   obtain rfl:q = -1:=by omega
   clear hq
   go_wp2
   go_ret
   refine ⟨?_,_,rfl⟩
   have:a=c:=by simpa using HD.out
   simp [bZ,this]
  | succ k=>
   obtain rfl:q=(k:Int):=by omega
   clear hq
   have ka:=hca k (by omega)
   have kc:=hcc k (by omega)
   clear hca hcc
   have b1:(k:Int)<(a.length:Int):=by omega
   by_cases hne:nth a k=nth c k
   ·have hb:(((nth a k:Nat):Int) != ((nth c k:Nat):Int))=false:=by rw [hne];simp
    have HE:=Lib.hid hne
    clear hne
    go_wp2
    go_quiet (fail)
    go_wp2
    go_roundw
    case rel=>exact ⟨k,_,_,by omega,rfl,rfl,rfl,by rw [jT a (by omega),jT c (by omega),HE.out,HD.out]⟩
    case measure=>simp [intOf]
   ·have hb:(((nth a k:Nat):Int) != ((nth c k:Nat):Int))=true:=by rw [bne_iff_ne];omega
    go_wp2
    go_quiet (fail)
    go_wp2
    have NM:((w.drewN d).drewN nq).cell? ⟨b,off+k,none⟩=some (.int .u32 (nth a k)):=ka
    have NN:((w.drewN d).drewN nq).cell? ⟨b',off'+k,none⟩=some (.int .u32 (nth c k)):=kc
    generalize hw2:(w.drewN d).drewN nq=w2 at *
    have lF:=Lib.hid hw2
    clear hw2
    go_quiet ((go_at_call 92;refine Calls.quiet_of_same ((sR _ _).mono fun _ _ h=>⟨h.1,h.2.symm⟩)))
    go_wp2
    go_ret
    obtain rfl:=lF.out
    refine ⟨eK ?_,_,by rw [World.drewN_drewN,World.drewN_drewN]⟩
    rcases Nat.lt_or_ge (nth a k) (nth c k) with h | h
    ·rw [gN (lG (by omega) (by omega) HD.out Al.out h),sQ (by omega)]
    ·rw [lH (lG (by omega) (by omega) HD.out.symm nV.out (by omega)),sP (by omega)]
theorem nW {v u:Value}{xs ys:List Nat}{w:World} (hx:Sl w .u32 v xs) (hy:Sl w .u32 u ys) (ax:All 4294967296 xs) (ay:All 4294967296 ys) :
  Calls Try.prog 73 #[v,u] w fun e w'=>e = .returned (.int .i64 (bZ (val 4294967296 xs) (val 4294967296 ys)))∧∃n,w'=w.drewN n:=by
 have tx:=hx
 have ty:=hy
 obtain ⟨p,cap,rfl,h1,h2,h3⟩:=hx
 obtain ⟨p',cap',rfl,h1',h2',h3'⟩:=hy
 have ex:val 4294967296 (trim xs)=val 4294967296 xs:=fc xs
 have ey:val 4294967296 (trim ys)=val 4294967296 ys:=fc ys
 have dx:=dQ (by omega) ax
 have dy:=dQ (by omega) ay
 have lx:(trim xs).length<=xs.length:=by rw [cU];exact eC _ _
 have ly:(trim ys).length<=ys.length:=by rw [cU];exact eC _ _
 by_cases hl:(trim xs).length=(trim ys).length
 ·by_cases h0:(trim xs).length=0
  ·have a0:trim xs = []:=List.eq_nil_of_length_eq_zero h0
   have b0:trim ys = []:=List.eq_nil_of_length_eq_zero (hl▸h0)
   refine (NK p p' _ _ cap cap' xs ys w tx ty a0 b0).mono ?_
   rintro e w' ⟨rfl,hw⟩
   refine ⟨?_,hw⟩
   rw [<- ex,<- ey,a0,b0,nX]
  ·rcases h3 with h3 | ⟨b,off,rfl,h4,h5⟩
   ·subst h3;simp [trim] at h0
   rcases h3' with h3' | ⟨b',off',rfl,h4',h5'⟩
   ·subst h3';exact absurd hl h0
   have q:=cmp_eq b off cap b' off' cap' ys.length xs.length xs ys (trim xs) (trim ys) w tx ty rfl rfl hl (by omega)
    (fun j hj=>by rw [h5 j (by omega),trim,eu _ (by rw [<- cU];omega)]) (fun j hj=>by rw [h5' j (by omega),trim,eu _ (by rw [<- cU];omega)])
    (ax.take _) (ay.take _)
   rw [ex,ey] at q
   exact q
 ·refine (NJ p p' _ _ cap cap' xs ys _ _ w tx ty rfl rfl hl).mono ?_
  rintro e w' ⟨rfl,hw⟩
  refine ⟨?_,hw⟩
  congr 2
  rcases Nat.lt_or_ge (trim xs).length (trim ys).length with h | h
  ·have:val 4294967296 xs<val 4294967296 ys:=by rw [dx,dy] at h;exact jU (by omega) h
   rw [gN this,sQ (by omega)]
  ·have hlt:(trim ys).length<(trim xs).length:=by omega
   have:val 4294967296 ys<val 4294967296 xs:=by rw [dx,dy] at hlt;exact jU (by omega) hlt
   rw [lH this,sP (by omega)]
theorem Try.infoU:(Try.prog.info? 85).map (fun i=>(i.zero,i.size,i.bytes))=some (some (.int .u32 0),1,4):=by kernel_rfl
theorem Try.sizeU:(Try.prog.info? 85).map (·.size)=some 1:=by kernel_rfl
theorem Try.infoI:(Try.prog.info? 3).map (fun i=>(i.zero,i.size,i.bytes))=some (some (.int .i64 0),1,8):=by kernel_rfl
def Made (e:TypeId) (k:IntKind) (w:World) (xs:List Nat) (en:Ending) (w':World):Prop:=
 ∃v,en = .returned v∧Own w' e k w.heap.size v xs∧w.grownBy w' none
def Ca (e:TypeId) (k:IntKind) (w:World) (xs:List Nat) (en:Ending) (w':World):Prop:=
 ∃g cap,en = .returned (.slice (some ⟨g,0,none⟩) xs.length cap)∧Own w' e k w.heap.size (.slice (some ⟨g,0,none⟩) xs.length cap) xs∧w.grownBy w' none
set_option maxHeartbeats 400000 in
theorem sU {v:Value}{xs:List Nat}{w:World} (hx:Sl w .u32 v xs) (hlen:xs.length<=17592186044416) :
  Calls Try.prog 66 #[v] w (Ca 85 .u32 w (trim xs)):=by
 obtain ⟨p,cap,rfl,h1,h2,h3⟩:=id hx
 have hl:(trim xs).length<=xs.length:=by rw [cU];exact eC _ _
 have ht:Sl w .u32 (.slice p (trim xs).length cap) (trim xs):=by
  have:=hx.take _ hl
  rwa [show xs.take (trim xs).length=trim xs by rw [cU];rfl] at this
 obtain ⟨i0,hi,hz0,hz1,hz2⟩:=info_parts Try.infoU
 obtain ⟨a,ha⟩:∃a,trim xs=a:=⟨_,rfl⟩
 rw [ha] at ht hl ⊢
 have Hx:=Lib.hid hx
 have Ht:=Lib.hid ht
 have Ha:=Lib.hid ha
 clear hx ht ha h3
 go_enter Try.func66,Try.ntmps66
 go_wp2_with fail
 refine (dP Hx.out Ha.out).mono ?_
 rintro e w' ⟨rfl,rfl⟩
 go_wp2_with (first
  | (at_make;refine fQ rfl _ _ 64 rfl 85 i0 (.int .u32 0) Try.underlying64 hi hz0 hz1 (by omega) rfl _ _ _ _ a.length a.length rfl rfl rfl rfl (Nat.le_refl _) (by omega) ?_;intro w1 r1 g1 s1)
  | ((with_reducible refine wQ rfl (.tmp 9) (.tmp 10) 64 64 rfl 85 Try.underlying64 Try.sizeU .u32 p w.heap.size 0 a.length a.length a.length a.length a.length cap (fun _=>.int .u32 0) a rfl rfl (Ht.out.grown g1 (.inl rfl)) r1 (Nat.min_self _).symm (by omega) ?_);intro w2 r2 g2 s2))
 go_ret
 refine ⟨_,_,rfl,.inr ⟨_,_,_,rfl,Nat.le_refl _,r2,Nat.le_refl _,by omega,fun j hj=>jn _ _ _ hj⟩,cW g1 g2 (Nat.le_refl _)⟩
theorem Cc {v:Value}{xs:List Nat}{w:World} (hx:Sl w .u32 v xs) (hlen:xs.length<=17592186044416) :
  Calls Try.prog 66 #[v] w (Made 85 .u32 w (trim xs)):=
 (sU hx hlen).mono fun _ _ ⟨_,_,h1,h2,h3⟩=>⟨_,h1,h2,h3⟩
def lI (B g:Nat) (w:World) (xs ys:List Nat) (en:Ending) (w':World):Prop:=
 ∃g' cap' zs,en = .returned (.slice (some ⟨g',0,none⟩) zs.length cap')∧Own w' 85 .u32 B (.slice (some ⟨g',0,none⟩) zs.length cap') zs∧All 4294967296 zs ∧
  val 4294967296 zs=val 4294967296 xs+val 4294967296 ys∧xs.length<=zs.length∧zs.length<=xs.length+1∧(zs.length=xs.length∨4294967296 ^ (zs.length-1)<=val 4294967296 zs)∧w.grownBy w' (some g)
theorem Cd {B g cap k:Nat}{w wr:World}{c:Nat->Value}{xs ys:List Nat} (hB:B<=g) (hle:xs.length<=cap) (hcap:cap<=9223372036854775807)
  (hx:∀j,j<xs.length->c j = .int .u32 (nth xs j)) (hk:k<=xs.length) (hky:ys.length<=k) (ax:All 4294967296 xs)
  (h0:bz 4294967296 (nth xs) (nth ys) k=0)
  (hr:aO wr 85 g cap (lay c 0 k .u32 (pre (cI 4294967296 (nth xs) (nth ys)) xs.length))) (hg:w.grownBy wr (some g)) :
  lI B g w xs ys (.returned (.slice (some ⟨g,0,none⟩) xs.length cap)) wr:=by
 have hz:∀d,k+d<=xs.length->bz 4294967296 (nth xs) (nth ys) (k+d)=0:=by
  intro d
  induction d with
  | zero=>intro _;exact h0
  | succ d ih=>
   intro hd
   rw [<- Nat.add_assoc]
   simp only [bz]
   rw [ih (by omega),dR ys (by omega)]
   have:=KV (by omega) ax (k+d)
   omega
 have hd:∀j,k<=j->j<xs.length->cI 4294967296 (nth xs) (nth ys) j=nth xs j:=by
  intro j h1 h2
  have e:=hz (j-k) (by omega)
  rw [show k+(j-k)=j by omega] at e
  have:=KV (by omega) ax j
  simp only [cI]
  rw [e,dR ys (by omega)]
  omega
 have hl:(pre (cI 4294967296 (nth xs) (nth ys)) xs.length).length=xs.length:=cO _ _
 refine ⟨g,cap,pre (cI 4294967296 (nth xs) (nth ys)) xs.length,by rw [hl],.inr ⟨g,cap,_,rfl,hB,hr,by omega,hcap,fun j hj=>?_⟩,ga (fun j _=>nY (by omega) _ _ _),?_,by omega,by omega,.inl hl,hg⟩
 ·rw [hl] at hj
  rw [eD _ hj]
  by_cases hjk:j<k
  ·rw [jn _ _ _ hjk,eD _ hj]
  ·rw [dl _ _ _ (by omega),hx j hj,hd j (by omega) hj]
 ·have e:=lJ 4294967296 (nth xs) (nth ys) xs.length
  have e0:=hz (xs.length-k) (by omega)
  rw [show k+(xs.length-k)=xs.length by omega] at e0
  rw [e0,dU _ xs (Nat.le_refl _),dU _ ys (by omega)] at e
  simpa using e
theorem Ce {B g:Nat}{w wr w':World}{v':Value}{xs ys:List Nat} (hky:ys.length<=xs.length)
  (h0:bz 4294967296 (nth xs) (nth ys) xs.length=1) (hg:w.grownBy wr (some g)) (hg':wr.grownBy w' (some g))
  (ho:Own w' 85 .u32 B v' (pre (cI 4294967296 (nth xs) (nth ys)) xs.length ++ [1])) :
  lI B g w xs ys (.returned v') w':=by
 have hl:(pre (cI 4294967296 (nth xs) (nth ys)) xs.length ++ [1]).length=xs.length+1:=by simp [cO]
 rcases id ho with ⟨_,h⟩ | ⟨g',cap',c,rfl,_⟩
 ·simp at h
 refine ⟨g',cap',_,rfl,ho,(ga (fun j _=>nY (by omega) _ _ _)).app (All.cons (by omega) (All.nil _)),?_,by omega,by omega,.inr ?_,be hg hg'⟩
 ·have e:=lJ 4294967296 (nth xs) (nth ys) xs.length
  rw [h0,dU _ xs (Nat.le_refl _),dU _ ys (by omega)] at e
  rw [lK,cO]
  exact e
 ·rw [hl,lK,cO,Nat.add_sub_cancel]
  omega
set_option maxHeartbeats 1000000 in
theorem Cf (g cap B:Nat) (vy:Value) (xs ys:List Nat) (w:World) (hown:Own w 85 .u32 B (.slice (some ⟨g,0,none⟩) xs.length cap) xs) (hy:Sl w .u32 vy ys) (hne:ys ≠ []->vy.ownBlock≠some g)
  (hl:ys.length<=xs.length) (ax:All 4294967296 xs) (ay:All 4294967296 ys) (hlen:xs.length<17592186044416) (hB:B<=w.heap.size) :
  Calls Try.prog 99 #[.slice (some ⟨g,0,none⟩) xs.length cap,vy] w (lI B g w xs ys):=by
 obtain ⟨p,dh,rfl,h1,h2,h3⟩:=hy
 rcases hown with ⟨h,_⟩ | ⟨g',cap',c,e,hBg,hr,hle,hcap,hx⟩
 ·cases h
 simp only [Value.slice.injEq,Option.some.injEq,Addr.mk.injEq,and_true] at e
 obtain ⟨rfl,-,rfl⟩:=e
 obtain ⟨i0,hi,hz0,hz1,hz2⟩:=info_parts Try.infoU
 obtain ⟨n,hn⟩:∃n,xs.length=n:=⟨_,rfl⟩
 obtain ⟨m,hm⟩:∃m,ys.length=m:=⟨_,rfl⟩
 obtain ⟨Z,hZ⟩:∃Z,pre (cI 4294967296 (nth xs) (nth ys)) xs.length=Z:=⟨_,rfl⟩
 have hZn:∀j,j<n->nth Z j=cI 4294967296 (nth xs) (nth ys) j:=fun j hj=>by rw [<- hZ];exact eD _ (by omega)
 have hZl:Z.length=n:=by rw [<- hZ,cO,hn]
 have cz:∀k,k<=n->bz 4294967296 (nth xs) (nth ys) k<=1:=fun k _=>sV (KV (by omega) ax) (KV (by omega) ay) k
 rw [hn] at hl hlen hle hx ⊢
 rw [hm] at hl h1 ⊢
 have Hn:=Lib.hid hn
 have Hm:=Lib.hid hm
 have HZ:=Lib.hid hZ
 have HZn:=Lib.hid hZn
 have HZl:=Lib.hid hZl
 have Hx:=Lib.hid hx
 have Ax:=Lib.hid ax
 have Ay:=Lib.hid ay
 have H3:=Lib.hid h3
 have Cz:=Lib.hid cz
 have Hne:=Lib.hid hne
 clear hn hm hZ hZn hZl hx ax ay h3 cz hne
 go_enter Try.func99,Try.ntmps99
 go_wp2_with fail
 go_loopw [5,11] (fun cv i wr=>∃k:Nat,k<=m∧i = .int .i64 k∧cv = .int .u64 (bz 4294967296 (nth xs) (nth ys) k)∧aO wr 85 g cap (lay c 0 k .u32 Z)∧w.grownBy wr (some g)) (fun _ i _=>(m-(intOf i).toNat))
 case atStart=>exact ⟨0,by omega,rfl,rfl,by rw [kU];exact hr,ba _ _⟩
 case round=>
  obtain ⟨k,hk,rfl,rfl,rr,gr⟩:=hrel
  have hcr:=Cz.out k (by omega)
  by_cases hlt:k<m
  ·have c1:wr.cell? ⟨g,k,none⟩=some (.int .u32 (nth xs k)):=by
    rw [rr.cell (by omega),dl _ _ _ (by omega),Hx.out k (by omega)]
   rcases H3.out with h3 | ⟨b,off,rfl,hbl,hy⟩
   ·have:=Hm.out;rw [h3] at this;simp at this;omega
   have c2:wr.cell? ⟨b,off+k,none⟩=some (.int .u32 (nth ys k)):=by
    rw [World.cell?_of_block (w:=w) (gr.block b hbl (by simpa [Value.ownBlock] using Hne.out (fun h=>by have:=Hm.out;rw [h] at this;simp at this;omega))),hy k (by rw [Hm.out];omega)]
   clear hy
   have f1:wr.frozen? ⟨g,k,none⟩=false:=rr.frozen k
   have b1:nth xs k<4294967296:=KV (by omega) Ax.out k
   have b2:nth ys k<4294967296:=KV (by omega) Ay.out k
   have i1:(k:Int)<(n:Int):=by omega
   have HC:=Lib.hid (show bz 4294967296 (nth xs) (nth ys) (k+1)=(bz 4294967296 (nth xs) (nth ys) k+(nth xs k+nth ys k)) / 4294967296 from rfl)
   have HD:=Lib.hid (show nth Z k=(bz 4294967296 (nth xs) (nth ys) k+(nth xs k+nth ys k)) % 4294967296 from HZn.out k (by omega))
   generalize bz 4294967296 (nth xs) (nth ys) k=cr at *
   go_wp2
   go_roundw
   case rel=>
    refine ⟨k+1,by omega,by go_num,int_eq (by rw [HC.out];omega),?_,be gr (cF _ _ _ _)⟩
    rw [<- eX c k .u32 Z rfl]
    have hv:Value.int .u32 (((cr:Int)+((nth xs k:Nat)+(nth ys k:Nat):Int)) % 4294967296) = .int .u32 (nth Z k):=int_eq (by rw [HD.out];omega)
    rw [<- hv]
    exact rr.set k _
   case measure=>simp [intOf];omega
  ·obtain rfl:k=m:=by omega
   generalize jV:bz 4294967296 (nth xs) (nth ys) k=cr at *
   have HC0:=Lib.hid jV
   clear jV
   go_wp2
   go_loopw [8,5] (fun i cv wr2=>∃q:Nat,k<=q∧q<=n∧i = .int .i64 q∧cv = .int .u64 (bz 4294967296 (nth xs) (nth ys) q)∧aO wr2 85 g cap (lay c 0 q .u32 Z)∧w.grownBy wr2 (some g)) (fun i _ _=>(n-(intOf i).toNat))
   case atStart=>exact ⟨k,Nat.le_refl _,by omega,rfl,by rw [HC0.out],rr,gr⟩
   case round=>
    obtain ⟨q,hq,hqn,rfl,rfl,dz,eE⟩:=hrel
    have hcq:=Cz.out q hqn
    have HC:=Lib.hid (show bz 4294967296 (nth xs) (nth ys) (q+1)=(bz 4294967296 (nth xs) (nth ys) q+(nth xs q+nth ys q)) / 4294967296 from rfl)
    generalize jW:bz 4294967296 (nth xs) (nth ys) q=cq at *
    have HC1:=Lib.hid jW
    clear jW
    by_cases h0:cq=0
    ·obtain rfl:=h0
     go_wp2
     go_ret
     have e:=HZ.out
     rw [<- e] at dz
     have hn:=Hn.out
     have hm:=Hm.out
     subst hn
     exact Cd hBg hle hcap Hx.out hqn (by omega) Ax.out HC1.out dz eE
    ·obtain rfl:cq=1:=by omega
     clear h0
     by_cases hlt2:q<n
     ·have c1:wr.cell? ⟨g,q,none⟩=some (.int .u32 (nth xs q)):=by
       rw [dz.cell (by omega),dl _ _ _ (by omega),Hx.out q (by omega)]
      have f1:wr.frozen? ⟨g,q,none⟩=false:=dz.frozen q
      have b1:nth xs q<4294967296:=KV (by omega) Ax.out q
      have i1:(q:Int)<(n:Int):=by omega
      have t1:((q:Int) == (n:Int))=false:=by rw [beq_eq_false_iff_ne];omega
      have y0:nth ys q=0:=dR ys (by rw [Hm.out];omega)
      have HD:=Lib.hid (show nth Z q=(1+nth xs q) % 4294967296 by rw [HZn.out q hlt2,cI,HC1.out,y0];rfl)
      have HC':=Lib.hid (show bz 4294967296 (nth xs) (nth ys) (q+1)=(1+nth xs q) / 4294967296 by rw [HC.out,y0];rfl)
      clear y0
      have jX:aO (wr.setCell ⟨g,q,none⟩ (.int .u32 (nth Z q))) 85 g cap (lay c 0 (q+1) .u32 Z):=by
       rw [<- eX c q .u32 Z rfl]
       exact dz.set q _
      have jY:=Lib.hid jX
      clear jX
      by_cases hz:nth xs q=4294967295
      ·have HZ0:Hid (nth Z q=0):=by show nth Z q=0;rw [HD.out,hz]
       have HZ1:Hid (bz 4294967296 (nth xs) (nth ys) (q+1)=1):=by show bz _ _ _ _=1;rw [HC'.out,hz]
       rw [hz] at c1
       go_wp2
       go_roundw
       case rel=>
        refine ⟨q+1,by omega,by omega,by go_num,by rw [HZ1.out],?_,be eE (cF _ _ _ _)⟩
        have e:=jY.out
        rw [HZ0.out] at e
        exact e
       case measure=>simp [intOf];omega
      ·have hz':nth xs q<4294967295:=by omega
       have HZ0:Hid (nth Z q=nth xs q+1):=by show nth Z q=_;rw [HD.out];omega
       have HZ1:Hid (bz 4294967296 (nth xs) (nth ys) (q+1)=0):=by show bz _ _ _ _=0;rw [HC'.out];omega
       have t2:(((nth xs q:Nat):Int)+1 != 0)=true:=by rw [bne_iff_ne];omega
       go_wp2
       go_roundw
       case rel=>
        refine ⟨q+1,by omega,by omega,by go_num,by rw [HZ1.out];rfl,?_,be eE (cF _ _ _ _)⟩
        have e:=jY.out
        rw [HZ0.out] at e
        exact e
       case measure=>simp [intOf];omega
     ·obtain rfl:q=n:=by omega
      have hown2:Own wr 85 .u32 B (.slice (some ⟨g,0,none⟩) q cap) Z:=by
       have hzl:=HZl.out
       exact .inr ⟨g,cap,_,by rw [hzl],hBg,dz,by omega,hcap,fun j hj=>jn _ _ _ (by omega)⟩
      have hs2:=eE.size
      have Hl2:=Lib.hid (show Z.length<17592186044416 by rw [HZl.out];omega)
      go_wp2_with (at_builtin;refine eY rfl _ _ 64 rfl 85 i0 (.int .u32 0) .u32 Try.underlying64 hi hz0 hz1 (by omega) rfl B (.slice (some ⟨g,0,none⟩) q cap) Z 1 rfl (hown2.grown (KQ _ _ none) (.inl rfl)) wr.heap.size rfl ?c1 Hl2.out (by simp;omega) ?_;(case c1=>exact (World.cell?_alloc_at _ _ _ _ rfl).trans rfl);intro v' w3 ho3 g3)
      go_ret
      have e:=HZ.out
      have hn:=Hn.out
      have hm:=Hm.out
      subst e
      subst hn
      exact Ce (by omega) HC1.out eE (be (KQ _ _ _) g3) ho3
structure fz (w wr:World) (lg k:Nat) (g cap:Nat) (tot:Nat) (zs:List Nat):Prop where
 own:Own wr 85 .u32 w.heap.size (.slice (some ⟨g,0,none⟩) zs.length cap) zs
 all:All 4294967296 zs
 sum:val 4294967296 zs=tot
 lo:lg<=zs.length
 hi:zs.length<=lg+k
 top:zs.length=lg∨4294967296 ^ (zs.length-1)<=val 4294967296 zs
 grown:w.grownBy wr none
theorem fz.start {w w1:World}{lg:Nat} (hl:lg<17592186044416) (r:aO w1 85 w.heap.size (lg+1) (fun _=>.int .u32 0)) (g:w.grownBy w1 none) :
  fz w w1 lg 0 w.heap.size (lg+1) 0 (List.replicate lg 0) where
 own:=by
  refine .inr ⟨_,_,_,rfl,Nat.le_refl _,r,by simp,by omega,fun j hj=>?_⟩
  simp at hj
  simp [nth,hj]
 all:=All.iL (by omega) _
 sum:=gO _ _
 lo:=by simp
 hi:=by simp
 top:=.inl (by simp)
 grown:=g
theorem fz.next {w wr w':World}{lg k g cap tot:Nat}{zs ys:List Nat}{e:Ending} (h:fz w wr lg k g cap tot zs) (a:lI w.heap.size g wr zs ys e w') :
  ∃g' cap' zs',e = .returned (.slice (some ⟨g',0,none⟩) zs'.length cap')∧fz w w' lg (k+1) g' cap' (tot+val 4294967296 ys) zs':=by
 obtain ⟨g',cap',zs',rfl,ho,ha,hv,h1,h2,h3,hg⟩:=a
 have hB:=(h.own.lt g rfl).1
 refine ⟨g',cap',zs',rfl,⟨ho,ha,by rw [hv,h.sum],by have:=h.lo;omega,by have:=h.hi;omega,?_,cW h.grown hg hB⟩⟩
 rcases h3 with h3 | h3
 ·rcases h.top with t | t
  ·exact .inl (h3.trans t)
  ·exact .inr (by rw [h3,hv];omega)
 ·exact .inr h3
theorem fz.done {w wr:World}{lg k g cap tot:Nat}{zs:List Nat} (h:fz w wr lg k g cap tot zs) (ht:lg≠0->4294967296 ^ (lg-1)<=tot):zs=ak 4294967296 tot:=by
 have t:eP zs:=by
  refine sW h.all ?_
  rcases h.top with t | t
  ·by_cases h0:lg=0
   ·exact .inl (List.eq_nil_of_length_eq_zero (by omega))
   ·exact .inr (by rw [t,h.sum];exact ht h0)
  ·exact .inr t
 rw [<- h.sum,nZ (by omega) h.all t]
set_option maxHeartbeats 1000000 in
theorem Cg (v:Value) (n:Nat) (vs:Nat->Value) (ls:Nat->List Nat) (w:World) (hv:qn w v n vs) (hs:∀j,j<n->Sl w .u32 (vs j) (ls j)) (ha:∀j,j<n->All 4294967296 (ls j))
  (M:Nat) (hM:∀j,j<n->(ls j).length<=M) (hlen:M+n<17592186044416) :
  Calls Try.prog 88 #[v] w (Made 85 .u32 w (ak 4294967296 (fe (fun j=>val 4294967296 (ls j)) n))):=by
 obtain ⟨p,cap,rfl,h1,h2,h3⟩:=hv
 obtain ⟨i0,hi,hz0,hz1,hz2⟩:=info_parts Try.infoU
 obtain ⟨tl,htl⟩:∃tl:Nat->Nat,tl=fun j=>(trim (ls j)).length:=⟨_,rfl⟩
 obtain ⟨vl,hvl⟩:∃vl:Nat->Nat,vl=fun j=>val 4294967296 (ls j):=⟨_,rfl⟩
 rw [<- hvl]
 have Mb:∀j,j<n->tl j<=M:=fun j hj=>by
  rw [htl]
  have:=hM j hj
  have:=eC (ls j) (ls j).length
  show (trim (ls j)).length<=M
  rw [cU];omega
 have sX:∀k,k<=n->di tl k<=M:=fun k hk=>Ch _ fun j hj=>Mb j (by omega)
 have Htl:=Lib.hid htl
 have Hvl:=Lib.hid hvl
 have Hs:=Lib.hid hs
 have Ha:=Lib.hid ha
 have H3:=Lib.hid h3
 have Ci:=Lib.hid Mb
 have MxM:=Lib.hid sX
 have HM:=Lib.hid hM
 clear htl hvl hs ha h3 Mb sX hM
 go_enter Try.func88,Try.ntmps88
 go_wp2_with fail
 go_loopw [3,11] (fun lv i wr=>∃k:Nat,k<=n∧i = .int .i64 k∧lv = .int .i64 (di tl k)∧w=wr) (fun _ i _=>(n-(intOf i).toNat))
 case atStart=>exact ⟨0,by omega,rfl,rfl,rfl⟩
 case round=>
  obtain ⟨k,hk,rfl,rfl,rfl⟩:=hrel
  by_cases hlt:k<n
  ·rcases H3.out with h3 | ⟨b,off,rfl,hbl,hc⟩
   ·omega
   obtain ⟨pk,lL,hvk,hk1,hk2,hk3⟩:=Hs.out k hlt
   have ck:=hc k hlt
   rw [hvk] at ck
   have Sk:=Lib.hid (hvk▸Hs.out k hlt)
   have HTk:=Lib.hid (show (trim (ls k)).length=tl k by rw [Htl.out])
   have HX:=Lib.hid (show di tl (k+1)=max (di tl k) (tl k) from rfl)
   have m1:=MxM.out k hk
   have m2:=Ci.out k hlt
   clear hc hvk hk3
   generalize di tl k=mx at *
   have i1:(k:Int)<(n:Int):=by omega
   go_wp2_with fail
   refine (iK _ _ _ _ _ Sk.out).mono ?_
   rintro e w' ⟨rfl,rfl⟩
   rw [HTk.out]
   go_wp2_with fail
   go_roundw
   case rel=>
    refine ⟨k+1,by omega,by go_num,int_eq ?_,trivial⟩
    rw [HX.out]
    split <;> omega
   case measure=>simp [intOf];omega
  ·obtain rfl:k=n:=by omega
   have m1:=MxM.out k hk
   have Cj:=Lib.hid (show di tl k≠0->4294967296 ^ (di tl k-1)<=fe vl k by
    intro h0
    obtain ⟨j,hj,e⟩:=Ck tl k h0
    have h1:=Cm vl hj
    have h2:tl j=(ak 4294967296 (vl j)).length:=by
     rw [Htl.out,Hvl.out]
     show (trim (ls j)).length=_
     rw [dQ (by omega) (Ha.out j hj)]
    rw [e,h2]
    refine Nat.le_trans (Mc (by omega) ?_) h1
    rw [<- h2,<- e]
    exact h0)
   have TL:=Lib.hid (show ∀j,j<k->tl j<=di tl k from fun j hj=>Cn tl hj)
   generalize di tl k=mx at *
   go_wp2_with (at_make;refine fQ rfl _ _ 64 rfl 85 i0 (.int .u32 0) Try.underlying64 hi hz0 hz1 (by omega) rfl _ _ _ _ mx (mx+1) rfl rfl rfl (by omega) (by omega) (by omega) ?_;intro w1 r1 g1 s1;have Si:=Lib.hid (fz.start (by omega) r1 g1);clear r1 g1 s1)
   go_loopw [6,27] (fun ov i wr2=>∃(q g2 cap2:Nat) (zs:List Nat),q<=k∧i = .int .i64 q∧ov = .slice (some ⟨g2,0,none⟩) zs.length cap2∧fz w wr2 mx q g2 cap2 (fe vl q) zs) (fun _ i _=>(k-(intOf i).toNat))
   case atStart=>
    refine ⟨0,_,_,_,by omega,rfl,?_,Si.out⟩
    simp
   case round=>
    obtain ⟨q,g2,cap2,zs,hq,rfl,rfl,inv⟩:=hrel
    by_cases hlt2:q<k
    ·rcases H3.out with h3 | ⟨b,off,rfl,hbl,hc⟩
     ·omega
     obtain ⟨pk,lL,hvk,hk1,hk2,hk3⟩:=Hs.out q hlt2
     have ck:=hc q hlt2
     rw [hvk] at ck
     have ck2:wr.cell? ⟨b,off+q,none⟩=some (.slice pk (ls q).length lL):=by
      rw [World.cell?_of_block (w:=w) (inv.grown.block b hbl (by simp)),ck]
     have lM:=hvk▸Hs.out q hlt2
     have Sk:=Lib.hid (lM.grown inv.grown (.inl rfl))
     have Tt:trim (ls q)=(ls q).take (trim (ls q)).length:=by rw [cU];rfl
     have Tl:(trim (ls q)).length<=(ls q).length:=by rw [cU];exact eC _ _
     have St:Sl wr .u32 (.slice pk (trim (ls q)).length lL) (trim (ls q)):=by
      have:=(lM.grown inv.grown (.inl rfl)).take _ Tl
      rwa [<- Tt] at this
     have Co:=Lib.hid St
     have Hb:=Lib.hid (show (trim (ls q)).length<=zs.length from by
      have h1:=TL.out q hlt2
      have h2:=inv.lo
      rw [Htl.out] at h1
      exact Nat.le_trans h1 h2)
     have Hne:=Lib.hid (show trim (ls q) ≠ []->(Value.slice pk (trim (ls q)).length lL).ownBlock≠some g2 by
      intro h0 e
      have l1:=(lM.take _ Tl).block_lt (by rw [<- Tt];exact h0) g2 e
      have l2:=(inv.own.lt g2 rfl).1
      omega)
     have i1:(q:Int)<(k:Int):=by omega
     have hsz:=inv.grown.size
     have Inv:=Lib.hid inv
     have L2:=Lib.hid (show zs.length<17592186044416 by have:=inv.hi;omega)
     have HV:=Lib.hid (show vl q=val 4294967296 (trim (ls q)) by rw [fc,Hvl.out])
     have HS:=Lib.hid (show fe vl (q+1)=fe vl q+vl q from rfl)
     have A1:=Lib.hid (show All 4294967296 (trim (ls q)) by rw [Tt];exact (Ha.out q hlt2).take _)
     clear hc hvk hk3 inv ck Tt Tl St lM
     go_wp2_with fail
     refine (iK _ _ _ _ _ Sk.out).mono ?_
     rintro e w' ⟨rfl,rfl⟩
     go_wp2_with fail
     refine (Cf g2 cap2 w.heap.size _ zs (trim (ls q)) wr Inv.out.own Co.out Hne.out Hb.out Inv.out.all A1.out L2.out hsz).mono ?_
     intro e w' had
     obtain ⟨g3,sY,zs3,rfl,Cp⟩:=Inv.out.next had
     go_wp2_with fail
     go_roundw
     case rel=>
      refine ⟨q+1,g3,sY,zs3,by omega,by go_num,rfl,?_⟩
      rw [HS.out,HV.out]
      exact Cp
     case measure=>simp [intOf];omega
    ·obtain rfl:q=k:=by omega
     have Inv:=Lib.hid inv
     clear inv
     go_wp2
     go_ret
     have e:=Inv.out.done Cj.out
     have ho:=Inv.out.own
     rw [<- e]
     exact ⟨_,rfl,ho,Inv.out.grown⟩
def two (a b:Value):Nat->Value:=fun j=>if j=0 then a else b
def two' (a b:List Nat):Nat->List Nat:=fun j=>if j=0 then a else b
theorem Cq (w:World) (a b:Value) (e:TypeId):qn (w.alloc (.cells #[a,b] e)) (.slice (some ⟨w.heap.size,0,none⟩) 2 2) 2 (two a b):=by
 refine ⟨_,2,rfl,Nat.le_refl _,by omega,.inr ⟨w.heap.size,0,rfl,by simp,fun j hj=>?_⟩⟩
 rw [Nat.zero_add,World.cell?_alloc_at _ _ _ _ rfl]
 have:j=0∨j=1:=by omega
 rcases this with rfl | rfl <;> rfl
theorem Made.later {e:TypeId}{k:IntKind}{w w1:World}{xs:List Nat}{en:Ending}{w':World} (h:Made e k w1 xs en w') (g:w.grownBy w1 none):Made e k w xs en w':=by
 obtain ⟨v,h1,h2,h3⟩:=h
 exact ⟨v,h1,h2.mono g.size,be g h3⟩
set_option maxHeartbeats 400000 in
theorem Cr {v u:Value}{xs ys:List Nat}{w:World} (hx:Sl w .u32 v xs) (hy:Sl w .u32 u ys) (ax:All 4294967296 xs) (ay:All 4294967296 ys) (lx:xs.length<=8796093022208) (ly:ys.length<=8796093022208) :
  Calls Try.prog 69 #[v,u] w (Made 85 .u32 w (ak 4294967296 (val 4294967296 xs+val 4294967296 ys))):=by
 obtain ⟨p,cap,rfl,-⟩:=id hx
 obtain ⟨q,cap',rfl,-⟩:=id hy
 have Hx:=Lib.hid hx
 have Hy:=Lib.hid hy
 have Ax:=Lib.hid ax
 have Ay:=Lib.hid ay
 clear hx hy ax ay
 go_enter Try.func69,Try.ntmps69
 go_wp2_with fail
 refine (Cg _ 2 (two (.slice p xs.length cap) (.slice q ys.length cap')) (two' xs ys) _ (Cq w _ _ _) ?_ ?_ 8796093022208 ?_ (by omega)).mono ?_
 ·intro j hj
  have:j=0∨j=1:=by omega
  rcases this with rfl | rfl
  ·exact Hx.out.grown (KQ _ _ none) (.inl rfl)
  ·exact Hy.out.grown (KQ _ _ none) (.inl rfl)
 ·intro j hj
  have:j=0∨j=1:=by omega
  rcases this with rfl | rfl
  ·exact Ax.out
  ·exact Ay.out
 ·intro j hj
  have:j=0∨j=1:=by omega
  rcases this with rfl | rfl
  ·exact lx
  ·exact ly
 ·intro e w' h
  obtain ⟨v',rfl,ho,hg⟩:=h.later (KQ w _ none)
  go_wp2_with fail
  go_ret
  have e:fe (fun j=>val 4294967296 (two' xs ys j)) 2=val 4294967296 xs+val 4294967296 ys:=by simp [fe,two']
  rw [e] at ho
  exact ⟨_,rfl,ho,hg⟩
def Md (w:World) (m n:Nat) (en:Ending) (w':World):Prop:=
 (m<n∧en = .returned (.tuple #[.slice none 0 0,.bool false])∧w.grownBy w' none) ∨
 (n<=m∧∃v,en = .returned (.tuple #[v,.bool true])∧Own w' 85 .u32 w.heap.size v (ak 4294967296 (m-n))∧w.grownBy w' none)
theorem Cs {B g cap k:Nat}{wr:World}{c:Nat->Value}{xs ys:List Nat} (hB:B<=g) (hle:xs.length<=cap) (hcap:cap<=9223372036854775807)
  (hx:∀j,j<xs.length->c j = .int .u32 (nth xs j)) (hky:ys.length<=k)
  (h0:aU (nth xs) (nth ys) k=0)
  (hr:aO wr 85 g cap (lay c 0 k .u32 (pre (dC 4294967296 (nth xs) (nth ys)) xs.length))) :
  Own wr 85 .u32 B (.slice (some ⟨g,0,none⟩) xs.length cap) (pre (dC 4294967296 (nth xs) (nth ys)) xs.length):=by
 refine .inr ⟨g,cap,_,by rw [cO],hB,hr,by rw [cO];exact hle,hcap,fun j hj=>?_⟩
 rw [cO] at hj
 rw [eD _ hj]
 by_cases hjk:j<k
 ·rw [jn _ _ _ hjk,eD _ hj]
 ·rw [dl _ _ _ (by omega),hx j hj,Ct h0 hky (by omega)]
theorem Own.trim {w:World}{e:TypeId}{k:IntKind}{B:Nat}{p:Option Addr}{m cap:Nat}{xs:List Nat} (h:Own w e k B (.slice p m cap) xs):Own w e k B (.slice p (Go.Proofs.Ytomamliepbhegaa.trim xs).length cap) (Go.Proofs.Ytomamliepbhegaa.trim xs):=by
 have hl:(Go.Proofs.Ytomamliepbhegaa.trim xs).length<=xs.length:=by rw [cU];exact eC _ _
 have:=h.take _ hl
 rwa [show xs.take (Go.Proofs.Ytomamliepbhegaa.trim xs).length=Go.Proofs.Ytomamliepbhegaa.trim xs by rw [cU];rfl] at this
theorem Sl.trim {w:World}{k:IntKind}{p:Option Addr}{m cap:Nat}{xs:List Nat} (h:Sl w k (.slice p m cap) xs):Sl w k (.slice p (Go.Proofs.Ytomamliepbhegaa.trim xs).length cap) (Go.Proofs.Ytomamliepbhegaa.trim xs):=by
 have hl:(Go.Proofs.Ytomamliepbhegaa.trim xs).length<=xs.length:=by rw [cU];exact eC _ _
 have:=h.take _ hl
 rwa [show xs.take (Go.Proofs.Ytomamliepbhegaa.trim xs).length=Go.Proofs.Ytomamliepbhegaa.trim xs by rw [cU];rfl] at this
set_option maxHeartbeats 400000 in
theorem Cu {v u:Value}{xs ys:List Nat}{w:World} (hx:Sl w .u32 v xs) (hy:Sl w .u32 u ys) (ax:All 4294967296 xs) (ay:All 4294967296 ys) (hlt:val 4294967296 xs<val 4294967296 ys) :
  Calls Try.prog 89 #[v,u] w (Md w (val 4294967296 xs) (val 4294967296 ys)):=by
 have Hx:=Lib.hid hx
 have Hy:=Lib.hid hy
 have Ax:=Lib.hid ax
 have Ay:=Lib.hid ay
 have Hlt:=Lib.hid (gN hlt)
 clear hx hy ax ay
 go_enter Try.func89,Try.ntmps89
 go_wp2_with fail
 refine (nW Hx.out Hy.out Ax.out Ay.out).mono ?_
 rintro e w' ⟨rfl,d,rfl⟩
 rw [Hlt.out]
 go_wp2_with fail
 go_ret2
 exact .inl ⟨hlt,rfl,⟨rfl,rfl,rfl,Nat.le_refl _,fun _ _ _=>rfl⟩⟩
theorem gP (w:World) (n:Nat) (row:Option Nat):w.grownBy (w.drewN n) row:=⟨rfl,rfl,rfl,Nat.le_refl _,fun _ _ _=>rfl⟩
set_option maxHeartbeats 1000000 in
theorem Cv {v u:Value}{xs ys:List Nat}{w:World} (hx:Sl w .u32 v xs) (hy:Sl w .u32 u ys) (ax:All 4294967296 xs) (ay:All 4294967296 ys) (hle:val 4294967296 ys<=val 4294967296 xs) (hlen:xs.length<=17592186044416) :
  Calls Try.prog 89 #[v,u] w (Md w (val 4294967296 xs) (val 4294967296 ys)):=by
 obtain ⟨p,cap,rfl,-⟩:=id hx
 obtain ⟨q,dh,rfl,-⟩:=id hy
 have Hx:=Lib.hid hx
 have Hy:=Lib.hid hy
 have Ax:=Lib.hid ax
 have Ay:=Lib.hid ay
 have Hle:=Lib.hid hle
 obtain ⟨cv,hcv⟩:∃cv,bZ (val 4294967296 xs) (val 4294967296 ys)=cv:=⟨_,rfl⟩
 have h0 : (0 : Int) <= cv := by rw [<- hcv]; unfold bZ; split; · omega
                                 · split <;> omega
 have sZ:=Lib.hid hcv
 clear hx hy ax ay hle hcv
 go_enter Try.func89,Try.ntmps89
 go_wp2_with fail
 refine (nW Hx.out Hy.out Ax.out Ay.out).mono ?_
 rintro e w' ⟨rfl,d,rfl⟩
 rw [sZ.out]
 go_wp2_with fail
 refine (sU (Hx.out.grown (gP w d none) (.inl rfl)) hlen).mono ?_
 rintro e w1 ⟨g,cp,rfl,ho0,hg0⟩
 have hg1:w.grownBy w1 none:=be (gP w d none) hg0
 have ho:Own w1 85 .u32 w.heap.size (.slice (some ⟨g,0,none⟩) (trim xs).length cp) (trim xs):=ho0
 have Hy1:=Lib.hid (Hy.out.grown hg1 (.inl rfl))
 have Hyt:=Lib.hid (Hy.out.trim)
 have tl:(trim ys).length<=(trim xs).length:=by
  rw [dQ (by omega) Ax.out,dQ (by omega) Ay.out]
  rcases Nat.lt_or_ge (ak 4294967296 (val 4294967296 xs)).length (ak 4294967296 (val 4294967296 ys)).length with h | h
  ·have:=jU (by omega) h;have:=Hle.out;omega
  ·exact h
 have At:=Lib.hid (show All 4294967296 (trim xs) from Ax.out.take _)
 have Bt:=Lib.hid (show All 4294967296 (trim ys) from Ay.out.take _)
 have Me:=Lib.hid (show val 4294967296 (trim ys)<=val 4294967296 (trim xs) by rw [fc,fc];exact Hle.out)
 have Vx:=Lib.hid (show val 4294967296 xs=val 4294967296 (trim xs) from (fc xs).symm)
 have Vy:=Lib.hid (show val 4294967296 ys=val 4294967296 (trim ys) from (fc ys).symm)
 have Cw:(trim xs).length<=17592186044416:=by have:=eC xs xs.length;rw [cU];omega
 go_wp2_with fail
 refine (iK _ _ _ _ _ Hy1.out).mono ?_
 rintro e w' ⟨rfl,rfl⟩
 generalize trim xs=a at *
 generalize trim ys=b at *
 clear Hx Hy Hy1 sZ Hle Ax Ay ho0 hg0
 rcases ho with ⟨h,_⟩ | ⟨g',cp',c,e,hBg,hr,hac,hcap,hx⟩
 ·cases h
 simp only [Value.slice.injEq,Option.some.injEq,Addr.mk.injEq,and_true] at e
 obtain ⟨rfl,-,rfl⟩:=e
 obtain ⟨n,hn⟩:∃n,a.length=n:=⟨_,rfl⟩
 obtain ⟨m,hm⟩:∃m,b.length=m:=⟨_,rfl⟩
 obtain ⟨Z,hZ⟩:∃Z,pre (dC 4294967296 (nth a) (nth b)) a.length=Z:=⟨_,rfl⟩
 have hZn:∀j,j<n->nth Z j=dC 4294967296 (nth a) (nth b) j:=fun j hj=>by rw [<- hZ];exact eD _ (by omega)
 have Cx:=Lib.hid (MG At.out Bt.out (by omega) tl Me.out)
 rw [hn] at tl Cw hac hx ⊢
 rw [hm] at tl ⊢
 have Hn:=Lib.hid hn
 have Hm:=Lib.hid hm
 have HZ:=Lib.hid hZ
 have HZn:=Lib.hid hZn
 have Hxx:=Lib.hid hx
 have Hg:=Lib.hid hg1
 have hs1:=hg1.size
 clear hn hm hZ hZn hx hg1
 go_wp2_with fail
 go_loopw [7,22] (fun cv i wr=>∃k:Nat,k<=m∧i = .int .i64 k∧cv = .int .u64 (aU (nth a) (nth b) k)∧aO wr 85 g cp (lay c 0 k .u32 Z)∧w1.grownBy wr (some g)) (fun _ i _=>(m-(intOf i).toNat))
 case atStart=>exact ⟨0,by omega,rfl,rfl,by rw [kU];exact hr,ba _ _⟩
 case round=>
  obtain ⟨k,hk,rfl,rfl,rr,gr⟩:=hrel
  have hcr:=jZ (nth a) (nth b) k
  by_cases hlt:k<m
  ·have c1:wr.cell? ⟨g,k,none⟩=some (.int .u32 (nth a k)):=by
    rw [rr.cell (by omega),dl _ _ _ (by omega),Hxx.out k (by omega)]
   obtain ⟨p',cap',e',-,-,h3⟩:=Hyt.out
   have hqq:p'=q:=by cases e';rfl
   subst hqq
   rcases h3 with h3 | ⟨bb,off,rfl,hbl,hy⟩
   ·have:=Hm.out;rw [h3] at this;simp at this;omega
   have c2:wr.cell? ⟨bb,off+k,none⟩=some (.int .u32 (nth b k)):=by
    rw [World.cell?_of_block (w:=w1) (gr.block bb (by omega) (by simp;omega)),World.cell?_of_block (w:=w) (Hg.out.block bb hbl (by simp)),hy k (by rw [Hm.out];omega)]
   clear hy e'
   have f1:wr.frozen? ⟨g,k,none⟩=false:=rr.frozen k
   have b1:nth a k<4294967296:=KV (by omega) At.out k
   have b2:nth b k<4294967296:=KV (by omega) Bt.out k
   have i1:(k:Int)<(n:Int):=by omega
   have HS:=Lib.hid (show nth Z k+(nth b k+aU (nth a) (nth b) k)=nth a k+4294967296*aU (nth a) (nth b) (k+1) by
    rw [HZn.out k (by omega)];exact lN (KV (by omega) Bt.out) k)
   have HC:=Lib.hid (show aU (nth a) (nth b) (k+1)=if nth a k<nth b k+aU (nth a) (nth b) k then 1 else 0 from rfl)
   generalize aU (nth a) (nth b) k=cr at *
   by_cases hlt1:nth a k<nth b k
   ·have hC1:aU (nth a) (nth b) (k+1)=1:=by rw [HC.out,if_pos (by omega)]
    have HC1:=Lib.hid hC1
    have e2:=HS.out
    rw [hC1] at e2
    have HE:=Lib.hid e2
    clear hC1 e2
    go_wp2
    go_roundw
    case rel=>
     refine ⟨k+1,by omega,by go_num,int_eq (by rw [HC1.out];exact wJ _ _ _ b2 hcr hlt1),?_,be gr (cF _ _ _ _)⟩
     rw [<- eX c k .u32 Z rfl]
     refine (rr.set k _).congr fun j _=>?_
     congr 1
     refine int_eq ?_
     rw [wK _ _ _ b2 hcr hlt1]
     have:=HE.out
     omega
    case measure=>simp [intOf];omega
   ·by_cases hlt2:nth a k<nth b k+cr
    ·have hC1:aU (nth a) (nth b) (k+1)=1:=by rw [HC.out,if_pos hlt2]
     have HC1:=Lib.hid hC1
     have e2:=HS.out
     rw [hC1] at e2
     have HE:=Lib.hid e2
     clear hC1 e2
     go_wp2
     go_roundw
     case rel=>
      refine ⟨k+1,by omega,by go_num,int_eq (by rw [HC1.out];exact wL _ _ _ (by omega) hcr hlt2),?_,be gr (cF _ _ _ _)⟩
      rw [<- eX c k .u32 Z rfl]
      refine (rr.set k _).congr fun j _=>?_
      congr 1
      refine int_eq ?_
      rw [wM _ _ _ (by omega) hcr hlt2]
      have:=HE.out
      omega
     case measure=>simp [intOf];omega
    ·have hC1:aU (nth a) (nth b) (k+1)=0:=by rw [HC.out,if_neg hlt2]
     have HC1:=Lib.hid hC1
     have e2:=HS.out
     rw [hC1] at e2
     have HE:=Lib.hid e2
     clear hC1 e2
     go_wp2
     go_roundw
     case rel=>
      refine ⟨k+1,by omega,by go_num,int_eq (by rw [HC1.out];exact wI _ _ _ b1 (by omega)),?_,be gr (cF _ _ _ _)⟩
      rw [<- eX c k .u32 Z rfl]
      refine (rr.set k _).congr fun j _=>?_
      congr 1
      refine int_eq ?_
      have:=HE.out
      omega
     case measure=>simp [intOf];omega
  ·obtain rfl:k=m:=by omega
   generalize jV:aU (nth a) (nth b) k=cr at *
   have HC0:=Lib.hid jV
   clear jV
   go_wp2
   go_loopw [11,7] (fun i cv wr2=>∃q:Nat,k<=q∧q<=n∧i = .int .i64 q∧cv = .int .u64 (aU (nth a) (nth b) q)∧aO wr2 85 g cp (lay c 0 q .u32 Z)∧w1.grownBy wr2 (some g)) (fun i _ _=>(n-(intOf i).toNat))
   case atStart=>exact ⟨k,Nat.le_refl _,by omega,rfl,by rw [HC0.out],rr,gr⟩
   case round=>
    obtain ⟨q,hq,hqn,rfl,rfl,dz,eE⟩:=hrel
    have hcq:=jZ (nth a) (nth b) q
    have HC:=Lib.hid (show aU (nth a) (nth b) (q+1)=if nth a q<nth b q+aU (nth a) (nth b) q then 1 else 0 from rfl)
    generalize jW:aU (nth a) (nth b) q=cq at *
    have HC1:=Lib.hid jW
    clear jW
    by_cases h0:cq=0
    ·obtain rfl:=h0
     have ho2:Own wr 85 .u32 w.heap.size (.slice (some ⟨g,0,none⟩) n cp) Z:=by
      have e:=HZ.out
      have hn:=Hn.out
      have hm:=Hm.out
      subst hn
      subst e
      exact Cs hBg hac hcap Hxx.out (by omega) HC1.out dz
     have Ho2:=Lib.hid ho2
     have Hgf:=Lib.hid (cW Hg.out eE hBg)
     clear ho2
     go_wp2_with fail
     refine (iK _ _ _ Z _ Ho2.out.sl).mono ?_
     rintro e w' ⟨rfl,rfl⟩
     go_wp2_with fail
     go_ret2
     have hv:val 4294967296 Z=val 4294967296 a-val 4294967296 b:=by
      rw [<- HZ.out]
      exact MH At.out Bt.out (by omega) (by rw [Hn.out,Hm.out];omega) Me.out
     refine .inr ⟨by rw [Vx.out,Vy.out];exact Me.out,_,rfl,?_,Hgf.out⟩
     have az:All 4294967296 Z:=by rw [<- HZ.out];exact ga (fun j _=>Mf (KV (by omega) At.out) j)
     rw [Vx.out,Vy.out,<- hv,<- dQ (by omega) az]
     exact Ho2.out.trim
    ·obtain rfl:cq=1:=by omega
     clear h0
     by_cases hlt2:q<n
     ·have c1:wr.cell? ⟨g,q,none⟩=some (.int .u32 (nth a q)):=by
       rw [dz.cell (by omega),dl _ _ _ (by omega),Hxx.out q (by omega)]
      have f1:wr.frozen? ⟨g,q,none⟩=false:=dz.frozen q
      have b1:nth a q<4294967296:=KV (by omega) At.out q
      have i1:(q:Int)<(n:Int):=by omega
      have y0:nth b q=0:=dR b (by rw [Hm.out];omega)
      have HS:=Lib.hid (show nth Z q+(nth b q+aU (nth a) (nth b) q)=nth a q+4294967296*aU (nth a) (nth b) (q+1) by
       rw [HZn.out q (by omega)];exact lN (KV (by omega) Bt.out) q)
      have HY:=Lib.hid y0
      clear y0
      have jX:aO (wr.setCell ⟨g,q,none⟩ (.int .u32 (nth Z q))) 85 g cp (lay c 0 (q+1) .u32 Z):=by
       rw [<- eX c q .u32 Z rfl]
       exact dz.set q _
      have jY:=Lib.hid jX
      clear jX
      by_cases hz:nth a q=0
      ·have HE1:Hid (aU (nth a) (nth b) (q+1)=1):=by show aU _ _ _=1;rw [HC.out,HY.out,if_pos (by omega)]
       have HE2:Hid (nth Z q=4294967295):=by have e:=HS.out;rw [HE1.out,HY.out,HC1.out] at e;show nth Z q=_;omega
       rw [hz] at c1
       go_wp2
       go_roundw
       case rel=>
        refine ⟨q+1,by omega,by omega,by go_num,by rw [HE1.out];try rfl,?_,be eE (cF _ _ _ _)⟩
        have e:=jY.out
        rw [HE2.out] at e
        exact e
       case measure=>simp [intOf];omega
      ·have HE1:Hid (aU (nth a) (nth b) (q+1)=0):=by show aU _ _ _=0;rw [HC.out,HY.out,if_neg (by omega)]
       have HE2:Hid (nth Z q=nth a q-1):=by have e:=HS.out;rw [HE1.out,HY.out,HC1.out] at e;show nth Z q=_;omega
       have hz':1<=nth a q:=by omega
       have t2:(((nth a q:Nat):Int) != 0)=true:=by rw [bne_iff_ne];omega
       go_wp2
       go_roundw
       case rel=>
        refine ⟨q+1,by omega,by omega,by go_num,by rw [HE1.out];try rfl,?_,be eE (cF _ _ _ _)⟩
        have e:=jY.out
        have hv:Value.int .u32 (((nth a q:Nat):Int)-1) = .int .u32 (nth Z q):=int_eq (by rw [HE2.out];omega)
        rw [hv]
        exact e
       case measure=>simp [intOf];omega
     ·obtain rfl:q=n:=by omega
      have e:=Cx.out
      rw [Hn.out,HC1.out] at e
      omega
theorem MI {v u:Value}{xs ys:List Nat}{w:World} (hx:Sl w .u32 v xs) (hy:Sl w .u32 u ys) (ax:All 4294967296 xs) (ay:All 4294967296 ys) (hlen:xs.length<=17592186044416) :
  Calls Try.prog 89 #[v,u] w (Md w (val 4294967296 xs) (val 4294967296 ys)):=by
 rcases Nat.lt_or_ge (val 4294967296 xs) (val 4294967296 ys) with h | h
 ·exact Cu hx hy ax ay h
 ·exact Cv hx hy ax ay h hlen
theorem Cy {w:World}{e:TypeId}{g N off n:Nat}{c:Nat->Value}{Z:List Nat}{v:Value} (h:aO w e g N (lay c off n .u32 Z)) (hv:v = .int .u32 (nth Z n)) :
  aO (w.setCell ⟨g,off+n,none⟩ v) e g N (lay c off (n+1) .u32 Z):=by
 rw [<- qm c off n .u32 Z hv]
 exact h.set _ _
theorem Sl.drop {w:World}{k:IntKind}{b off m cap:Nat}{xs:List Nat} (h:Sl w k (.slice (some ⟨b,off,none⟩) m cap) xs) (n:Nat) (hn:n<xs.length):Sl w k (.slice (some ⟨b,off+n,none⟩) (m-n) (cap-n)) (xs.drop n):=by
 obtain ⟨p',cap',e,h1,h2,h3⟩:=h
 simp only [Value.slice.injEq] at e
 obtain ⟨rfl,rfl,rfl⟩:=e
 have hl:(xs.drop n).length=xs.length-n:=List.length_drop ..
 refine ⟨_,cap-n,by rw [hl],by omega,by omega,?_⟩
 rcases h3 with rfl | ⟨b',off',e,h4,h5⟩
 ·simp at hn
 ·simp only [Option.some.injEq,Addr.mk.injEq,and_true] at e
  obtain ⟨rfl,rfl⟩:=e
  refine .inr ⟨b,off+n,rfl,h4,fun j hj=>?_⟩
  rw [hl] at hj
  rw [Ly,Nat.add_assoc]
  exact h5 (n+j) (by omega)
theorem CA {v:Value}{xs:List Nat}{w:World} (hx:Sl w .u32 v xs) (ax:All 4294967296 xs) (hlen:xs.length<=8796093022208) :
  Calls Try.prog 91 #[v] w fun e w'=>e = .returned (.int .i64 ((ak 2 (val 4294967296 xs)).length:Nat))∧w=w':=by
 obtain ⟨p,cap,rfl,h1,h2,hp⟩:=id hx
 have Hx:=Lib.hid hx
 have Ht:=Lib.hid hx.trim
 have At:=Lib.hid (show All 4294967296 (trim xs) from ax.take _)
 have Vx:=Lib.hid (show val 4294967296 xs=val 4294967296 (trim xs) from (fc xs).symm)
 have Td:=Lib.hid (dQ (by omega) ax)
 have tl:(trim xs).length<=8796093022208:=by have:=eC xs xs.length;rw [cU];omega
 clear hx ax
 generalize hq:trim xs=a at Ht At Vx tl Td
 have Hq:=Lib.hid hq
 clear hq
 by_cases h0:a = []
 ·subst h0
  go_enter Try.func91,Try.ntmps91
  go_wp2_with fail
  refine (dP Hx.out Hq.out).mono ?_
  rintro e w' ⟨rfl,rfl⟩
  go_wp2_with fail
  go_ret
  exact ⟨by rw [Vx.out,val,ff];rfl,rfl⟩
 ·obtain ⟨k,hk⟩:∃k,a.length=k+1:=⟨a.length-1,by have:=List.length_pos_iff.2 h0;omega⟩
  obtain ⟨p',cap',e',g1,g2,g3⟩:=id Ht.out
  simp only [Value.slice.injEq,true_and] at e'
  obtain ⟨rfl,rfl⟩:=e'
  rcases g3 with g3 | ⟨b,off,rfl,hbl,hy⟩
  ·exact absurd g3 h0
  have c1:w.cell? ⟨b,off+k,none⟩=some (.int .u32 (nth a k)):=hy k (by omega)
  have b1:=At.out.nth (j:=k) (by omega)
  have Hn0:=Lib.hid (show nth a k≠0 by
   have t:=CB (b:=4294967296) (by omega) (val 4294967296 xs)
   rw [<- Td.out] at t
   rcases t with t | t
   ·exact absurd t h0
   ·rw [hk] at t;exact t)
  have Hk:=Lib.hid hk
  rw [hk] at tl
  have He:=Lib.hid h0
  clear hy h0 hk g1
  go_enter Try.func91,Try.ntmps91
  go_wp2_with fail
  refine (dP Hx.out Hq.out).mono ?_
  rintro e w' ⟨rfl,rfl⟩
  rw [Hk.out]
  go_wp2_with fail
  refine (wR _ _ (by omega) (by omega)).mono ?_
  rintro e w' ⟨rfl,rfl⟩
  have hbl:=Lib.bitLen_le (nth a k) 32 (by omega) (by omega)
  have hb0:=wT (nth a k) (by omega) (by have:=Hn0.out;omega)
  have hb1:=wS (nth a k) (by omega)
  rw [Int.toNat_natCast]
  generalize Lib.bitLen (nth a k)=l at *
  go_wp2_with fail
  go_ret
  refine ⟨eK ?_,rfl⟩
  have hv:val 4294967296 a=val 4294967296 (a.take k)+4294967296 ^ k*nth a k:=by
   have e1:=iM 4294967296 a (k:=k) (by rw [Hk.out];omega)
   rwa [<- Hk.out,List.take_length] at e1
  have hlt:=fA (At.out.take k)
  rw [List.length_take,Nat.min_eq_left (by rw [Hk.out];omega)] at hlt
  have hp:(4294967296:Nat) ^ k=2 ^ (32*k):=by rw [Nat.pow_mul]
  obtain ⟨m,rfl⟩:∃m,l=m+1:=⟨l-1,by omega⟩
  have hd:=CC (b:=2) (n:=val 4294967296 a) (k:=32*k+m) (by omega) (by
   rw [Nat.pow_add,<- hp,hv]
   have:=Nat.mul_le_mul_left (4294967296 ^ k) hb0.1
   rw [Nat.add_sub_cancel] at this
   omega) (by
   rw [Nat.add_assoc,Nat.pow_add,<- hp,hv]
   have:=Nat.mul_le_mul_left (4294967296 ^ k) (show nth a k+1<=2 ^ (m+1) from hb1)
   rw [Nat.mul_add] at this
   omega)
  rw [Vx.out,hd]
  omega
def CD (w:World) (g N off n:Nat) (c:Nat->Value) (P:List Nat->Nat->Prop) (en:Ending) (w':World):Prop:=
 ∃(Z:List Nat) (cy:Nat),Z.length=n∧All 4294967296 Z∧cy<4294967296∧P Z cy∧en = .returned (.int .u32 cy)∧aO w' 85 g N (lay c off n .u32 Z)∧w.grownBy w' (some g)∧w'.heap.size=w.heap.size
set_option maxHeartbeats 1000000 in
theorem CE (g off N cap n x:Nat) (vy:Value) (c:Nat->Value) (os ys:List Nat) (w:World) (hr:aO w 85 g N c) (hN:off+n<=N) (hx:x<4294967296)
  (hc:∀j,j<n->c (off+j) = .int .u32 (nth os j)) (ho:os.length=n) (ao:All 4294967296 os)
  (hy:Sl w .u32 vy ys) (hne:ys ≠ []->vy.ownBlock≠some g) (hm:ys.length=n) (ay:All 4294967296 ys) :
  Calls Try.prog 90 #[.slice (some ⟨g,off,none⟩) n cap,vy,.int .u32 x] w
   (CD w g N off n c (fun Z cy=>val 4294967296 Z+4294967296 ^ n*cy=x*val 4294967296 ys+val 4294967296 os)):=by
 obtain ⟨p,dh,rfl,h1,h2,h3⟩:=hy
 have Mg:=KV (by omega) ay
 have ob:=KV (by omega) ao
 obtain ⟨s,hs⟩:∃s:Nat->Nat,s=fun j=>nth ys j*x+nth os j:=⟨_,rfl⟩
 have ta:∀k,chC 4294967296 s 0 k<4294967296:=fun k=>by
  refine tc (fun j=>?_) (by omega) k
  rw [hs]
  show nth ys j*x+nth os j+4294967296<=_
  have a:=Mg j
  have b:=ob j
  have:=qh a hx
  omega
 obtain ⟨Z,hZ⟩:∃Z,pre (eQ 4294967296 s 0) n=Z:=⟨_,rfl⟩
 have hZn:∀j,j<n->nth Z j=eQ 4294967296 s 0 j:=fun j hj=>by rw [<- hZ];exact eD _ (by omega)
 have fin:Z.length=n∧All 4294967296 Z∧val 4294967296 Z+4294967296 ^ n*chC 4294967296 s 0 n=x*val 4294967296 ys+val 4294967296 os:=by
  refine ⟨by rw [<- hZ,cO],by rw [<- hZ];exact ga fun j _=>td (by omega) _ _ _,?_⟩
  have e:=te 4294967296 s 0 n
  rw [hZ,hs,val_add 4294967296 (fun j=>nth ys j*x) (nth os),val_mul,dU _ ys (by omega),dU _ os (by omega),Nat.mul_comm _ x] at e
  rw [hs]
  omega
 rw [hm] at h1 ⊢
 have Hm:=Lib.hid hm
 have HZn:=Lib.hid hZn
 have Fin:=Lib.hid fin
 have H3:=Lib.hid h3
 have CF:=Lib.hid ta
 have Hs:=Lib.hid hs
 have Hne:=Lib.hid hne
 have Hc:=Lib.hid hc
 have CG:=Lib.hid Mg
 have CH:=Lib.hid ob
 clear hm hZ hZn fin h3 ta hs hne hc Mg ay ao ob ho
 go_enter Try.func90,Try.ntmps90
 go_wp2_with fail
 go_loopw [7,12] (fun cv i wr=>∃k:Nat,k<=n∧i = .int .i64 k∧cv = .int .u64 (chC 4294967296 s 0 k)∧aO wr 85 g N (lay c off k .u32 Z)∧w.grownBy wr (some g)∧wr.heap.size=w.heap.size) (fun _ i _=>(n-(intOf i).toNat))
 case atStart=>exact ⟨0,by omega,rfl,rfl,by rw [kU];exact hr,ba _ _,rfl⟩
 case round=>
  obtain ⟨k,hk,rfl,rfl,rr,gr,sr⟩:=hrel
  have Sr:=Lib.hid sr
  clear sr
  have hcl:=CF.out k
  by_cases hlt:k<n
  ·have f1:wr.frozen? ⟨g,off+k,none⟩=false:=rr.frozen _
   have c1:wr.cell? ⟨g,off+k,none⟩=some (.int .u32 (nth os k)):=by
    rw [rr.cell (by omega),dl _ _ _ (by omega),Hc.out k hlt]
   have HC:=Lib.hid (show chC 4294967296 s 0 (k+1)=(chC 4294967296 s 0 k+s k) / 4294967296 from rfl)
   have HD:=Lib.hid (show nth Z k=(chC 4294967296 s 0 k+s k) % 4294967296 from HZn.out k (by omega))
   rcases H3.out with h3 | ⟨b,mO,rfl,hbl,hy⟩
   ·have:=Hm.out;rw [h3] at this;simp at this;omega
   have c2:wr.cell? ⟨b,mO+k,none⟩=some (.int .u32 (nth ys k)):=by
    rw [World.cell?_of_block (w:=w) (gr.block b hbl (by simpa [Value.ownBlock] using Hne.out (fun h=>by have:=Hm.out;rw [h] at this;simp at this;omega))),hy k (by rw [Hm.out];omega)]
   clear hy
   have b2:nth ys k<4294967296:=CG.out k
   have b3:nth os k<4294967296:=CH.out k
   have i1:(k:Int)<(n:Int):=by omega
   have m1:=wN hx b2
   have m2:=wO x (nth ys k)
   have HSk:=Lib.hid (show (s k:Int)=(x:Int)*(nth ys k:Int)+(nth os k:Int) by rw [Hs.out];show ((nth ys k*x+nth os k:Nat):Int)=_;push_cast;rw [Int.mul_comm])
   generalize chC 4294967296 s 0 k=cr at *
   go_wp2
   go_roundw
   case rel=>
    refine ⟨k+1,by omega,by go_num,int_eq ?_,?_,be gr (cF _ _ _ _),by simpa using Sr.out⟩
    ·have:=HSk.out;rw [HC.out];omega
    ·refine Cy rr (int_eq ?_)
     have:=HSk.out;rw [HD.out];omega
   case measure=>simp [intOf];omega
  ·obtain rfl:k=n:=by omega
   have Fe:=Fin.out
   generalize chC 4294967296 s 0 k=cr at *
   have FE:=Lib.hid Fe
   clear Fe
   go_wp2
   go_ret
   exact ⟨Z,cr,FE.out.1,FE.out.2.1,hcl,FE.out.2.2,eK (by omega),rr,gr,Sr.out⟩
theorem CI {w w':World}{e:TypeId}{g N k n:Nat}{Y Z:List Nat}{cy:Nat}{wv:Value} (hY:Y.length=N) (hk:k+n<N) (hZ:Z.length=n)
  (h:aO w e g N (lay (fun j=>.int .u32 (nth Y j)) k n .u32 Z)) (hw:w'=w.setCell ⟨g,k+n,none⟩ wv) (hv:wv = .int .u32 cy) :
  aO w' e g N (fun j=>.int .u32 (nth (patch Y Z k n cy) j)):=by
 subst hw
 subst hv
 refine (h.set (k+n) _).congr fun j hj=>?_
 by_cases h1:j=k+n
 ·subst h1
  rw [iq,CJ (by omega) hZ]
 ·rw [upd_ne _ _ h1]
  by_cases h2:j<k
  ·rw [dl _ _ _ (by omega),CK (by omega) h2]
  ·by_cases h3:j<k+n
   ·obtain ⟨i,rfl⟩:∃i,j=k+i:=⟨j-k,by omega⟩
    rw [iu _ _ _ (by omega),CL (by omega) hZ (by omega)]
   ·rw [dl _ _ _ (by omega),CM (by omega) hZ (by omega)]
set_option maxHeartbeats 1000000 in
theorem CN {p q:Option Addr}{fB dh:Nat}{xs ys a b:List Nat}{w:World} (hx:Sl w .u32 (.slice p xs.length fB) xs) (hy:Sl w .u32 (.slice q ys.length dh) ys)
  (ha:trim xs=a) (hb:trim ys=b) (ha0:a ≠ []) (hb0:b ≠ []) (ax:All 4294967296 xs) (ay:All 4294967296 ys) (hm:a.length+b.length<=8796093022208) :
  Calls Try.prog 71 #[.slice p xs.length fB,.slice q ys.length dh] w (Made 85 .u32 w (ak 4294967296 (val 4294967296 a*val 4294967296 b))):=by
 obtain ⟨i0,hi,hz0,hz1,hz2⟩:=info_parts Try.infoU
 have Hta:=Lib.hid (show Sl w .u32 (.slice p a.length fB) a from ha▸hx.trim)
 have Htb:=Lib.hid (show Sl w .u32 (.slice q b.length dh) b from hb▸hy.trim)
 have Aa:=Lib.hid (show All 4294967296 a from ha▸ax.take _)
 have Ab:=Lib.hid (show All 4294967296 b from hb▸ay.take _)
 have la:a.length≠0:=fun h=>ha0 (List.eq_nil_of_length_eq_zero h)
 have lb:b.length≠0:=fun h=>hb0 (List.eq_nil_of_length_eq_zero h)
 have tb:(((a.length:Nat):Int) == 0)=false:=by rw [beq_eq_false_iff_ne];omega
 have KH:(((b.length:Nat):Int) == 0)=false:=by rw [beq_eq_false_iff_ne];omega
 have Hx:=Lib.hid hx
 have Hy:=Lib.hid hy
 have Ha:=Lib.hid ha
 have Hb:=Lib.hid hb
 have Ha0:=Lib.hid ha0
 have Hb0:=Lib.hid hb0
 clear hx hy ha hb ha0 hb0 ax ay
 go_enter Try.func71,Try.ntmps71
 go_wp2_with fail
 refine (dP Hx.out Ha.out).mono ?_
 rintro e w' ⟨rfl,rfl⟩
 go_wp2_with fail
 refine (dP Hy.out Hb.out).mono ?_
 rintro e w' ⟨rfl,rfl⟩
 go_wp2_with (at_make;refine fQ rfl _ _ 64 rfl 85 i0 (.int .u32 0) Try.underlying64 hi hz0 hz1 (by omega) rfl _ _ _ _ (a.length+b.length) (a.length+b.length) rfl rfl (by omega) (by omega) (Nat.le_refl _) (by omega) ?_;intro w1 r1 g1 s1;have R1:=Lib.hid r1;have G1:=Lib.hid g1;clear r1 g1)
 go_loopw [28] (fun i wr=>∃(k:Nat) (Y:List Nat),k<=a.length∧i = .int .i64 k∧w.grownBy wr none∧w.heap.size<wr.heap.size∧Y.length=a.length+b.length∧All 4294967296 Y∧val 4294967296 Y=val 4294967296 (a.take k)*val 4294967296 b ∧
   val 4294967296 (Y.drop (k+b.length))=0∧aO wr 85 w.heap.size (a.length+b.length) (fun j=>.int .u32 (nth Y j))) (fun i _=>(a.length-(intOf i).toNat))
 case atStart=>
  refine ⟨0,List.replicate (a.length+b.length) 0,by omega,rfl,G1.out,by omega,by simp,All.iL (by omega) _,by rw [gO];simp [val],?_,R1.out.congr fun j hj=>?_⟩
  ·rw [List.drop_replicate,gO]
  ·simp [nth,hj]
 case round=>
  obtain ⟨k,Y,hk,rfl,gr,sr,yl,ya,yv,yz,rr⟩:=hrel
  have Yl:=Lib.hid yl
  have Ya:=Lib.hid ya
  have Yv:=Lib.hid yv
  have Yz:=Lib.hid yz
  have Gr:=Lib.hid gr
  by_cases hlt:k<a.length
  ·obtain ⟨p',cap',e',h1,h2,h3⟩:=id Hta.out
   have hpp:p'=p:=by cases e';rfl
   subst hpp
   rcases h3 with h3 | ⟨bb,off,rfl,hbl,hyy⟩
   ·exact absurd h3 Ha0.out
   have c1:wr.cell? ⟨bb,off+k,none⟩=some (.int .u32 (nth a k)):=by
    rw [World.cell?_of_block (w:=w) (gr.block bb hbl (by simp)),hyy k hlt]
   have b1:nth a k<4294967296:=Aa.out.nth hlt
   have i1:(k:Int)<(a.length:Int):=by omega
   have i2:(k:Int)<=(k:Int)+(b.length:Int):=by omega
   have i3:k<=k+b.length:=by omega
   have i4:(k:Int)+(b.length:Int)<=(a.length:Int)+(b.length:Int):=by omega
   have i5:k+b.length<=a.length+b.length:=by omega
   have CO:k+b.length<a.length+b.length:=by omega
   have i6:(k:Int)+(b.length:Int)<(a.length:Int)+(b.length:Int):=by omega
   have hk0:¬a.length+b.length=k:=by omega
   have Rr:=Lib.hid rr
   clear hyy e' h1 yl ya yv yz gr rr
   go_wp2_with fail
   refine (CE w.heap.size k (a.length+b.length) (a.length+b.length-k) b.length (nth a k) _ _ ((Y.drop k).take b.length) b wr Rr.out i5 b1 ?_ ?_ ((Ya.out.drop _).take _) (Htb.out.grown Gr.out (.inl rfl)) ?_ rfl Ab.out).mono ?_
   ·intro j hj
    rw [eu _ hj,Ly]
   ·rw [List.length_take,List.length_drop,Yl.out];omega
   ·intro h e
    have:=Htb.out.block_lt h _ e
    omega
   ·intro e w2 hwc
    obtain ⟨Z,cy,z1,z2,z3,z4,rfl,dz,eE,tf⟩:=hwc
    have c2:w2.cell? ⟨w.heap.size,k+b.length,none⟩=some (.int .u32 (nth Y (k+b.length))):=by
     rw [dz.cell (by omega),dl _ _ _ (by omega)]
    have f2:w2.frozen? ⟨w.heap.size,k+b.length,none⟩=false:=dz.frozen _
    have Z1:=Lib.hid z1
    have Z4:=Lib.hid z4
    have Pv:=Lib.hid (CP (T:=nth a k*val 4294967296 b) (by rw [Yl.out];omega) (by omega) Yz.out z1 (by omega))
    have CQ:=Lib.hid (cW Gr.out eE (Nat.le_refl _))
    have Rr2:=Lib.hid dz
    have S2:=Lib.hid tf
    clear z1 z4 eE dz tf
    go_wp2_with fail
    go_roundw
    case rel=>
     refine ⟨k+1,patch Y Z k b.length cy,by omega,by go_num,cW CQ.out (cF _ _ _ _) (Nat.le_refl _),by simp;rw [S2.out];exact sr,?_,CR Ya.out z2 z3,?_,Pv.out.2,CI Yl.out CO Z1.out Rr2.out rfl rfl⟩
     ·rw [CS (by rw [Yl.out];omega) Z1.out,Yl.out]
     ·rw [Pv.out.1,Yv.out,iM _ _ hlt,Nat.add_mul,Nat.mul_assoc]
    case measure=>simp [intOf];omega
  ·obtain rfl:k=a.length:=by omega
   have ho:Own wr 85 .u32 w.heap.size (.slice (some ⟨w.heap.size,0,none⟩) (a.length+b.length) (a.length+b.length)) Y:=
    .inr ⟨w.heap.size,_,_,by rw [yl],Nat.le_refl _,rr,by omega,by omega,fun j _=>rfl⟩
   have Ho:=Lib.hid ho
   clear ho yl ya yv yz gr rr
   go_wp2_with fail
   refine (iK _ _ _ Y _ Ho.out.sl).mono ?_
   rintro e w'' ⟨rfl,rfl⟩
   go_wp2_with fail
   go_ret
   refine ⟨_,rfl,?_,Gr.out⟩
   have hv:=Yv.out
   rw [List.take_length] at hv
   rw [<- hv,<- dQ (by omega) Ya.out]
   exact Ho.out.trim
theorem CT {p q:Option Addr}{fB dh:Nat}{xs ys b:List Nat}{w:World} (hx:Sl w .u32 (.slice p xs.length fB) xs) (hy:Sl w .u32 (.slice q ys.length dh) ys)
  (ha:trim xs = []) (hb:trim ys=b) :
  Calls Try.prog 71 #[.slice p xs.length fB,.slice q ys.length dh] w (Made 85 .u32 w []):=by
 have Hx:=Lib.hid hx
 have Hy:=Lib.hid hy
 have Ha:=Lib.hid ha
 have Hb:=Lib.hid hb
 clear hx hy ha hb
 go_enter Try.func71,Try.ntmps71
 go_wp2_with fail
 refine (dP Hx.out Ha.out).mono ?_
 rintro e w' ⟨rfl,rfl⟩
 go_wp2_with fail
 refine (dP Hy.out Hb.out).mono ?_
 rintro e w' ⟨rfl,rfl⟩
 go_wp2_with fail
 go_ret
 exact ⟨_,rfl,Own.nil _ _ _ _,ba _ _⟩
theorem CU {p q:Option Addr}{fB dh:Nat}{xs ys a:List Nat}{w:World} (hx:Sl w .u32 (.slice p xs.length fB) xs) (hy:Sl w .u32 (.slice q ys.length dh) ys)
  (ha:trim xs=a) (hb:trim ys = []) (ha0:a ≠ []) :
  Calls Try.prog 71 #[.slice p xs.length fB,.slice q ys.length dh] w (Made 85 .u32 w []):=by
 have la:a.length≠0:=fun h=>ha0 (List.eq_nil_of_length_eq_zero h)
 have tb:(((a.length:Nat):Int) == 0)=false:=by rw [beq_eq_false_iff_ne];omega
 have Hx:=Lib.hid hx
 have Hy:=Lib.hid hy
 have Ha:=Lib.hid ha
 have Hb:=Lib.hid hb
 clear hx hy ha hb ha0
 go_enter Try.func71,Try.ntmps71
 go_wp2_with fail
 refine (dP Hx.out Ha.out).mono ?_
 rintro e w' ⟨rfl,rfl⟩
 go_wp2_with fail
 refine (dP Hy.out Hb.out).mono ?_
 rintro e w' ⟨rfl,rfl⟩
 go_wp2_with fail
 go_ret
 exact ⟨_,rfl,Own.nil _ _ _ _,ba _ _⟩
theorem CV {v u:Value}{xs ys:List Nat}{w:World} (hx:Sl w .u32 v xs) (hy:Sl w .u32 u ys) (ax:All 4294967296 xs) (ay:All 4294967296 ys) (lx:xs.length<=4398046511104) (ly:ys.length<=4398046511104) :
  Calls Try.prog 71 #[v,u] w (Made 85 .u32 w (ak 4294967296 (val 4294967296 xs*val 4294967296 ys))):=by
 obtain ⟨p,cap,rfl,-⟩:=id hx
 obtain ⟨q,dh,rfl,-⟩:=id hy
 have tx:(trim xs).length<=xs.length:=by rw [cU];exact eC _ _
 have ty:(trim ys).length<=ys.length:=by rw [cU];exact eC _ _
 rw [<- fc (b:=4294967296) xs,<- fc (b:=4294967296) ys]
 by_cases ha:trim xs = []
 ·rw [ha,val,Nat.zero_mul]
  exact CT hx hy ha rfl
 ·by_cases hb:trim ys = []
  ·rw [hb,val,Nat.mul_zero]
   exact CU hx hy rfl hb ha
  ·exact CN hx hy rfl rfl ha hb ax ay (by omega)
theorem CW {p:Option Addr}{n cap k:Nat}{w:World} (hn:n<=cap) :
  Calls Try.prog 67 #[.slice p n cap,.int .i64 k] w fun e w'=>e = .returned (.slice p (min n k) cap)∧w=w':=by
 by_cases h:n<=k
 ·have h1:¬(k:Int)<(n:Int):=by omega
  have h2:¬k<n:=by omega
  have h3:(0:Int)<=(n:Int):=by omega
  go_enter Try.func67,Try.ntmps67
  go_wp2_with fail
  go_ret
  exact ⟨rfl,rfl⟩
 ·have h1:(k:Int)<(n:Int):=by omega
  have h2:k<n:=by omega
  have h3:k<=cap:=by omega
  go_enter Try.func67,Try.ntmps67
  go_wp2_with fail
  go_ret
  exact ⟨by rw [Nat.min_eq_right (by omega)];rfl,rfl⟩
theorem CX {v u:Value}{xs ys:List Nat}{w:World} (hx:Sl w .u32 v xs) (hy:Sl w .u32 u ys) (ax:All 4294967296 xs) (ay:All 4294967296 ys) :
  Calls Try.prog 73 #[v,u] w fun e w'=>e = .returned (.int .i64 (bZ (val 4294967296 xs) (val 4294967296 ys)))∧w.grownBy w' none:=
 (nW hx hy ax ay).mono fun _ _ ⟨h,n,hw⟩=>⟨h,by rw [hw];exact gP _ _ _⟩
theorem Own.one (w:World) (k:IntKind) (e:TypeId) (x:Nat):Own (w.alloc (.cells #[.int k x] e)) e k w.heap.size (.slice (some ⟨w.heap.size,0,none⟩) 1 1) [x]:=by
 refine .inr ⟨w.heap.size,1,fun _=>.int k x,rfl,Nat.le_refl _,?_,Nat.le_refl _,by omega,fun j hj=>?_⟩
 ·exact aO.made w #[.int k x] e _ (fun j hj=>by
   have:j=0:=by simpa using hj
   subst this;rfl)
 ·have:j=0:=by simpa using hj
  subst this;rfl
def lE (w:World) (b:Bool) (en:Ending) (w':World):Prop:=en = .returned (.bool b)∧w.grownBy w' none
end Go.Proofs.Ytomamliepbhegaa
