/- Operations on numbers of -/
import Derived.Test.YtomamliepbhegaaGreatDivT
import Derived.Test.YtomamliepbhegaaGreatSymR
import Derived.Test.YtomamliepbhegaaGreatGauC
set_option maxRecDepth 100000
namespace Go.Proofs.YtomamliepbhegaaGreat.Sym
open Go.Proofs.Tryz
open Go.RowKit
variable {d j m n p x:Nat}{y:Operand}{op:BinOp}{o:Op}{xs:List Operand}{A B T t:TypeId}{a b c z:Int}{ac:Act}{w:World}{k k' kb:IntKind}{r:Bool}{P:Program}{Φ:PH}
def EI:BinOp->BinOp->Bool
 | .lss,.lss=>true | .leq,.leq=>true | .gtr,.gtr=>true | .geq,.geq=>true | .eql,.eql=>true | .neq,.neq=>true | .add,.add=>true | .sub,.sub=>true | .mul,.mul=>true
 | .quo,.quo=>true | .rem,.rem=>true | .shl,.shl=>true | .shr,.shr=>true | .or,.or=>true | .and,.and=>true | _,_=>false
theorem TV {x y:BinOp} (h:EI x y=true):x=y:=by cases x <;> cases y <;> first | rfl | cases h
def aD (op:BinOp):Op->Option (List Operand)
 | .binOp o _ x y _=>if EI o op then some [x,y] else none
 | _=>none
theorem tq  (h:aD op o=some xs):∃t y z yt,o = .binOp op t y z yt∧xs = [y,z]:=by
 unfold aD at h
 split at h
 case h_2=>cases h
 rename_i o' t y z yt
 split at h
 case isFalse=>cases h
 rename_i hc
 simp only [Option.some.injEq] at h
 exact ⟨t,y,z,yt,by rw [TV hc],h.symm⟩
section
variable {q:Nat}
theorem tr {o:Oper}{yt:TypeId}{z:Operand}{r:Value} (ho:o.op = .binOp op t y z yt) (h1:ac.eval y = .int k a) (h2:ac.eval z = .int kb b) (h:(binOp op t (.int k a) (.int kb b)).run P w = .ok r w):(execOp ac.eval o).run P w = .ok (.value r) w:=by
 unfold execOp
 simp only [ho,h1,h2,Sem.run_bind]
 have hg:(eqGuard op t y z (.int k a) (.int kb b)).run P w = .ok () w:=by
  unfold eqGuard
  cases op <;> simp
 simp [hg,h]
theorem bF  (hp:∀w v,Φ p w v->v = .int k a) (hq:∀w v,Φ q w v->v = .int kb b) (h:∀t w,(binOp op t (.int k a) (.int kb b)).run P w = .ok (.int k c) w) (hx:Φ x=fun _ v=>v = .int k c):aj Φ P ⟨0,[.fact p,.fact q],[oK x],.quiet (aD op)⟩:=fun X w ac o xs _ hm ha=>by
 obtain ⟨t,y,z,yt,ho,rfl⟩:=tq hm
 refine ⟨.int k c,w,tr ho (hp _ _ (ha.1 w (Off.refl _ _))) (hq _ _ (ha.2.1 w (Off.refl _ _))) (h t w),bh w none,⟨⟨⟨⟨_,_,rfl⟩,fun _ h=>by cases h⟩,fun r hr w1 hw=>?_⟩,trivial⟩⟩
 simp only [List.mem_singleton] at hr;subst hr
 show Φ x w1 _;rw [hx];rfl
theorem cG  (hp:∀w v,Φ p w v->v = .int k a) (h:∀t w,(binOp op t (.int k a) (.int kb b)).run P w = .ok (.int k c) w) (hx:Φ x=fun _ v=>v = .int k c):aj Φ P ⟨0,[.fact p,.lit (.ci kb b)],[oK x],.quiet (aD op)⟩:=fun X w ac o xs _ hm ha=>by
 obtain ⟨t,y,z,yt,ho,rfl⟩:=tq hm
 refine ⟨.int k c,w,tr ho (hp _ _ (ha.1 w (Off.refl _ _))) ha.2.1 (h t w),bh w none,⟨⟨⟨⟨_,_,rfl⟩,fun _ h=>by cases h⟩,fun r hr w1 hw=>?_⟩,trivial⟩⟩
 simp only [List.mem_singleton] at hr;subst hr
 show Φ x w1 _;rw [hx];rfl
theorem kU  (hp:∀w v,Φ p w v->v = .int k a) (hq:∀w v,Φ q w v->v = .int kb b) (h:∀t w,(binOp op t (.int k a) (.int kb b)).run P w = .ok (.bool r) w):aj Φ P ⟨0,[.fact p,.fact q],[oL (.cb r)],.quiet (aD op)⟩:=fun X w ac o xs _ hm ha=>by
 obtain ⟨t,y,z,yt,ho,rfl⟩:=tq hm
 exact ⟨.bool r,w,tr ho (hp _ _ (ha.1 w (Off.refl _ _))) (hq _ _ (ha.2.1 w (Off.refl _ _))) (h t w),bh w none,⟨⟨⟨rfl,fun _ h=>by cases h⟩,fun r hr=>by cases hr⟩,trivial⟩⟩
theorem dl  (hp:∀w v,Φ p w v->v = .int k a) (h:∀t w,(binOp op t (.int k a) (.int kb b)).run P w = .ok (.bool r) w):aj Φ P ⟨0,[.fact p,.lit (.ci kb b)],[oL (.cb r)],.quiet (aD op)⟩:=fun X w ac o xs _ hm ha=>by
 obtain ⟨t,y,z,yt,ho,rfl⟩:=tq hm
 exact ⟨.bool r,w,tr ho (hp _ _ (ha.1 w (Off.refl _ _))) ha.2.1 (h t w),bh w none,⟨⟨⟨rfl,fun _ h=>by cases h⟩,fun r hr=>by cases hr⟩,trivial⟩⟩
end
section
variable {a b c:Nat}
theorem wrap64 (h:c<18446744073709551616):IntKind.u64.wrap (c:Int)=c:=by
 simp only [IntKind.wrap,IntKind.bits,IntKind.signed]
 simp
 omega
theorem run_add64 (h:a+b=c) (t:TypeId) (w:World) (hc:c<18446744073709551616:=by omega):(binOp .add t (.int .u64 (a:Int)) (.int .u64 (b:Int))).run P w = .ok (.int .u64 (c:Int)) w:=by
 subst h
 simp [binOp,Op.intArith,<- Int.natCast_add,wrap64 hc]
theorem run_sub64 (h:a-b=c) (hb:b<=a) (hc:a<18446744073709551616) (t:TypeId) (w:World):(binOp .sub t (.int .u64 (a:Int)) (.int .u64 (b:Int))).run P w = .ok (.int .u64 (c:Int)) w:=by
 subst h
 simp [binOp,Op.intArith,<- Int.ofNat_sub hb,wrap64 (show a-b<18446744073709551616 by omega)]
theorem oG (h:a*b=c) (hc:c<18446744073709551616) (t:TypeId) (w:World):(binOp .mul t (.int .u64 (a:Int)) (.int .u64 (b:Int))).run P w = .ok (.int .u64 (c:Int)) w:=by
 subst h
 simp [binOp,Op.intArith,<- Int.natCast_mul,wrap64 hc]
theorem jS (h:a % b=c) (hb:0<b) (t:TypeId) (w:World):(binOp .rem t (.int .u64 (a:Int)) (.int .u64 (b:Int))).run P w = .ok (.int .u64 (c:Int)) w:=by
 subst h
 have e:((a:Int).tmod (b:Int))=((a % b:Nat):Int):=by rw [Int.tmod_eq_emod_of_nonneg (by omega)];exact (Int.natCast_emod a b).symm
 simp only [binOp]
 rw [if_neg (by simp)]
 unfold Op.intDiv
 simp only []
 rw [if_neg (by omega),e];rfl
theorem TW (h:a / b=c) (t:TypeId) (w:World) (hb:0<b:=by omega) (ha:a<18446744073709551616:=by omega):(binOp .quo t (.int .u64 (a:Int)) (.int .u64 (b:Int))).run P w = .ok (.int .u64 (c:Int)) w:=by
 subst h
 have e:((a:Int).tdiv (b:Int))=((a / b:Nat):Int):=by rw [Int.tdiv_eq_ediv_of_nonneg (by omega)];exact (Int.natCast_ediv a b).symm
 have hl:=Nat.div_le_self a b
 simp only [binOp]
 rw [if_neg (by simp)]
 unfold Op.intDiv
 simp only []
 rw [if_neg (by omega),e,wrap64 (by omega)];rfl
theorem wZ  (h:a*4294967296=c) (ha:a<4294967296) (t:TypeId) (w:World):(binOp .shl t (.int .u64 (a:Int)) (.int kb 32)).run P w = .ok (.int .u64 (c:Int)) w:=by
 subst h
 have e:IntKind.u64.wrap ((a:Int)*2 ^ (min (32:Int).toNat IntKind.u64.bits))=((a*4294967296:Nat):Int):=by
  rw [show (2:Int) ^ (min (32:Int).toNat IntKind.u64.bits)=((4294967296:Nat):Int) from rfl,<- Int.natCast_mul]
  exact wrap64 (by omega)
 simp only [binOp,Op.shift]
 rw [if_neg (by omega),e];rfl
theorem xa (h:a*4294967296+b=c) (ha:a<4294967296) (hb:b<4294967296) (t:TypeId) (w:World):(binOp .or t (.int .u64 ((a*4294967296:Nat):Int)) (.int .u64 (b:Int))).run P w = .ok (.int .u64 (c:Int)) w:=by
 subst h
 have e:(BitVec.ofInt IntKind.u64.bits ((a*4294967296:Nat):Int) ||| BitVec.ofInt IntKind.u64.bits (b:Int)).toNat=a*4294967296+b:=by
  rw [BitVec.toNat_or,BitVec.ofInt_natCast,BitVec.ofInt_natCast,BitVec.toNat_ofNat,BitVec.toNat_ofNat,Nat.mod_eq_of_lt (show a*4294967296<2 ^ IntKind.u64.bits by show _<18446744073709551616;omega),Nat.mod_eq_of_lt (show b<2 ^ IntKind.u64.bits by show _<18446744073709551616;omega)]
  have:=Nat.two_pow_add_eq_or_of_lt (i:=32) (b:=b) (by omega) a
  rw [show (2:Nat) ^ 32=4294967296 from rfl,Nat.mul_comm] at this
  exact this.symm
 simp only [binOp]
 rw [if_neg (by simp)]
 simp only [Op.intBits]
 rw [e,wrap64 (by omega)];rfl
theorem cA {x y:Int} (h:(match op with | .lss=>decide (x<y) | .gtr=>decide (x > y) | .leq=>decide (x<=y) | .geq=>decide (x≥y) | .eql=>x == y | .neq=>x != y | _=>false)=r) (ho:op = .lss∨op = .gtr∨op = .leq∨op = .geq∨op = .eql∨op = .neq) (t:TypeId) (w:World):(binOp op t (.int k x) (.int k y)).run P w = .ok (.bool r) w:=by
 subst h
 rcases ho with rfl | rfl | rfl | rfl | rfl | rfl <;> simp [binOp,Op.intCmp]
end
def iq (a b:TypeId):Op->Option (List Operand)
 | .convert s d x=>if s=a∧d=b then some [x] else none
 | _=>none
section
theorem EJ  (h:iq A B o=some xs):∃y,o = .convert A B y∧xs = [y]:=by
 unfold iq at h
 split at h
 case h_2=>cases h
 rename_i sA dB y
 split at h
 case isFalse=>cases h
 rename_i hc
 simp only [Option.some.injEq] at h
 exact ⟨y,by rw [hc.1,hc.2],h.symm⟩
theorem EK {o:Oper} (hA:(P.underlying A).isSome=true) (hB:P.underlying B=some (.int k')) (ho:o.op = .convert A B y) (hv:ac.eval y = .int k a) (h:k'.wrap a=a):(execOp ac.eval o).run P w = .ok (.value (.int k' a)) w:=by
 unfold execOp
 obtain ⟨d,hd⟩:=Option.isSome_iff_exists.mp hA
 have hr:(convert A B (.int k a)).run P w = .ok (.int k' a) w:=by
  simp [convert,run_underlying hd,run_underlying hB,Conv.intToInt,h]
 simp [ho,hv,hr]
theorem xb  (hB:P.underlying B=some (.int k')) (hp:∀w v,Φ p w v->v = .int k a) (h:k'.wrap a=a) (hx:Φ x=fun _ v=>v = .int k' a) (hA:(P.underlying A).isSome=true:=by kernel_rfl):aj Φ P ⟨0,[.fact p],[oK x],.quiet (iq A B)⟩:=fun X w ac o xs _ hm ha=>by
 obtain ⟨y,ho,rfl⟩:=EJ hm
 refine ⟨.int k' a,w,EK hA hB ho (hp _ _ (ha.1 w (Off.refl _ _))) h,bh w none,⟨⟨⟨⟨_,_,rfl⟩,fun _ h=>by cases h⟩,fun r hr w1 hw=>?_⟩,trivial⟩⟩
 simp only [List.mem_singleton] at hr;subst hr
 show Φ x w1 _;rw [hx];rfl
theorem oH  (hB:P.underlying B=some (.int .i64)) (hp:∀w v,Φ p w v->v = .int k a) (h:IntKind.i64.wrap a=a) (hx:Φ x=Ni a) (hA:(P.underlying A).isSome=true:=by kernel_rfl):aj Φ P ⟨0,[.fact p],[oN x],.quiet (iq A B)⟩:=fun X w ac o xs _ hm ha=>by
 obtain ⟨y,ho,rfl⟩:=EJ hm
 refine ⟨.int .i64 a,w,EK hA hB ho (hp _ _ (ha.1 w (Off.refl _ _))) h,bh w none,⟨⟨⟨⟨_,rfl⟩,fun _ h=>by cases h⟩,fun r hr w1 hw=>?_⟩,trivial⟩⟩
 simp only [List.mem_singleton] at hr;subst hr
 show Φ x w1 _;rw [hx];rfl
end
section
theorem mT (h:a+b=c) (ha:0<=a) (hb:0<=b) (hc:c<18446744073709551616) (t:TypeId) (w:World):(binOp .add t (.int .u64 a) (.int .u64 b)).run P w = .ok (.int .u64 c) w:=by
 obtain ⟨x,rfl⟩:=Int.eq_ofNat_of_zero_le ha
 obtain ⟨y,rfl⟩:=Int.eq_ofNat_of_zero_le hb
 rw [<- h]
 exact run_add64 (c:=x+y) rfl t w
theorem fg (h:a-b=c) (hb:0<=b) (hab:b<=a) (hc:a<18446744073709551616) (t:TypeId) (w:World):(binOp .sub t (.int .u64 a) (.int .u64 b)).run P w = .ok (.int .u64 c) w:=by
 obtain ⟨x,rfl⟩:=Int.eq_ofNat_of_zero_le (show 0<=a by omega)
 obtain ⟨y,rfl⟩:=Int.eq_ofNat_of_zero_le hb
 rw [<- h,<- Int.ofNat_sub (by omega)]
 exact run_sub64 (c:=x-y) rfl (by omega) (by omega) t w
theorem jT (h:a*b=c) (ha:0<=a) (hb:0<=b) (hc:c<18446744073709551616) (t:TypeId) (w:World):(binOp .mul t (.int .u64 a) (.int .u64 b)).run P w = .ok (.int .u64 c) w:=by
 obtain ⟨x,rfl⟩:=Int.eq_ofNat_of_zero_le ha
 obtain ⟨y,rfl⟩:=Int.eq_ofNat_of_zero_le hb
 have e:((x*y:Nat):Int)=c:=by rw [Int.natCast_mul];exact h
 rw [<- e]
 exact oG (c:=x*y) rfl (by omega) t w
theorem eM (h:a % b=c) (ha:0<=a) (hb:0<b) (t:TypeId) (w:World):(binOp .rem t (.int .u64 a) (.int .u64 b)).run P w = .ok (.int .u64 c) w:=by
 obtain ⟨x,rfl⟩:=Int.eq_ofNat_of_zero_le ha
 obtain ⟨y,rfl⟩:=Int.eq_ofNat_of_zero_le (show 0<=b by omega)
 rw [<- h,<- Int.natCast_emod]
 exact jS (c:=x % y) rfl (by omega) t w
end
theorem ueF  (hp:∀w v,Φ p w v->v = .int k a) (h:¬a=b:=by omega):aj Φ P ⟨0,[.fact p,.lit (.ci k b)],oF,.quiet (aD .eql)⟩:=dl (op:=.eql) hp (cA (op:=.eql) (beq_eq_false_iff_ne.2 h) (by simp))
theorem ugT {a:Int} (hp:∀w v,Φ p w v->v = .int k a) (h:a > b:=by omega):aj Φ P ⟨0,[.fact p,.lit (.ci k b)],oT,.quiet (aD .gtr)⟩:=dl (op:=.gtr) hp (cA (op:=.gtr) (decide_eq_true h) (by simp))
theorem oJ {a b:Nat} (ha:a<2147483648:=by omega) (hb:b<2147483648:=by omega):a*b<4611686018427387904:=Nat.lt_of_lt_of_le (Nat.mul_lt_mul_of_lt_of_lt ha hb) (by decide)
theorem qy  (ha:0<=a∧a<2147483648) (hb:0<=b∧b<2147483648):0<=a*b∧a*b<4611686018427387904:=by
 obtain ⟨x,rfl⟩:=Int.eq_ofNat_of_zero_le ha.1
 obtain ⟨y,rfl⟩:=Int.eq_ofNat_of_zero_le hb.1
 have:=oJ (a:=x) (b:=y)
 rw [<- Int.natCast_mul]
 omega
theorem jU  (h:a / b=c) (ha:0<=a) (hb:0<b) (ha2:a<18446744073709551616) (t:TypeId) (w:World):(binOp .quo t (.int .u64 a) (.int .u64 b)).run P w = .ok (.int .u64 c) w:=by
 obtain ⟨x,rfl⟩:=Int.eq_ofNat_of_zero_le ha
 obtain ⟨y,rfl⟩:=Int.eq_ofNat_of_zero_le (show 0<=b by omega)
 rw [<- h,<- Int.natCast_ediv]
 exact TW (c:=x / y) rfl t w
def aA (k:IntKind) (Z:Nat->Int) (i:Nat) (_:World) (v:Value):Prop:=v = .agg #[.int k (Z i)]
section
variable {q r y i:Nat}{Z Z':Nat->Int}
theorem cJ (k:IntKind) (z:Int):(bK.one .nk).is (.int k z):=⟨⟨_,_,rfl⟩,fun _ h=>by cases h⟩
theorem ir  (hp:∀w v,Φ p w v->Ptr 1 (fun _ v=>v = .agg #[.int k z]) w v) (hx:Φ x=fun _ v=>v = .int k z) (hT:ia P T=some false:=by kernel_rfl):aj Φ P ⟨0,[.fact p],[oK x],.quiet (aI T)⟩:=fun X w ac o xs _ hm ha=>by
 unfold aI at hm
 split at hm
 case h_2=>cases hm
 rename_i t y ho
 split at hm
 case isFalse=>cases hm
 rename_i ht
 subst ht
 simp only [Option.some.injEq] at hm
 subst hm
 obtain ⟨b,off,hv,l,h1,h2,h3⟩:=hp _ _ (ha.1 w (Off.refl _ _))
 obtain rfl:l = [.int k z]:=by simpa using h3
 have hc:=h2 0 _ rfl
 refine ⟨.int k z,w,?_,bh w none,cL (cJ k z) hx fun _ _=>rfl⟩
 rw [Nat.add_zero] at hc
 unfold execOp
 simp [ho,hv,Instr.loadAt,Instr.sureAddr,loadVar,ib hT,hc]
theorem qz {J:List Nat} (hp:∀w v,Φ p w v->Ptr 1 (fun _ v=>v = .agg #[.int k z]) w v) (hx:Φ x=fun _ v=>v = .int k z) (hT:ia P T=some false:=by kernel_rfl):aj Φ P ⟨0,[.fact p],[oK x],.dd J (aI T)⟩:=fun X w ac o xs _ hm ha=>by
 unfold aI at hm
 split at hm
 case h_2=>cases hm
 rename_i t y ho
 split at hm
 case isFalse=>cases hm
 rename_i ht
 subst ht
 simp only [Option.some.injEq] at hm
 subst hm
 obtain ⟨b,off,hv,l,h1,h2,h3⟩:=hp _ _ (ha.1 w (Off.refl _ _))
 obtain rfl:l = [.int k z]:=by simpa using h3
 have hc:=h2 0 _ rfl
 refine ⟨.int k z,w,?_,bh w none,fun Y=>cL (cJ k z) hx fun _ _=>rfl⟩
 rw [Nat.add_zero] at hc
 unfold execOp
 simp [ho,hv,Instr.loadAt,Instr.sureAddr,loadVar,ib hT,hc]
theorem xc {e:TypeId}{c:Int} (xS xI:Operand) (hp:∀w v,Φ p w v->ah 1 e (aA .u64 Z) n w v) (hq:∀w v,Φ q w v->v = .int .i64 (i:Int)) (hr:∀w v,Φ r w v->v = .int .u64 c) (hy:Φ y=At 1)
  (hF':∀k,k≠i->Z k=Z' k) (hG':c=Z' i) (hx:Φ x=ah 1 e (aA .u64 Z') n) (hz:ee P t=some 1:=by kernel_rfl) (hi:i<n:=by omega) :
  aj Φ P ⟨0,[.fact p,.fact q,.any,.fact r],[oS x],.put [] j 0 y (dR t xS xI)⟩:=fun X L w ac o xs hX hL hLX hm ha hjt hb=>by
 unfold dR at hm
 split at hm
 case h_2=>cases hm
 rename_i t' a b ho
 split at hm
 case isFalse=>cases hm
 rename_i ht
 subst ht
 simp only [Option.some.injEq] at hm
 subst hm
 obtain ⟨rows,r1,r2,r3,r4⟩:=hp _ _ (ha.1 w (Off.refl _ _))
 have hi2:=hq _ _ (ha.2.1 w (Off.refl _ _))
 have hval:=hr _ _ (ha.2.2.2.1 w (Off.refl _ _))
 have hAt:=hjt w (Off.refl _ _)
 rw [hy] at hAt
 obtain ⟨g,off,n1,c1,k,hAt⟩:=hAt
 simp only [List.dropLast_cons_cons,List.dropLast_singleton,List.map_cons,List.map_nil,Value.agg.injEq,Array.mk.injEq,List.cons.injEq,and_true] at hAt
 obtain ⟨h1,h2,h3⟩:=hAt
 have hk:k=i:=by
  rw [hi2] at h2
  injection h2 with _ h2
  omega
 subst hk
 rw [h1] at r3
 have hoff:off=0∧n1=n:=by
  rcases r3.1.2 with ⟨h',_⟩ | ⟨g',cap',cur',h',_⟩
  ·simp at h'
  ·simp only [Value.slice.injEq,Option.some.injEq,Addr.mk.injEq,and_true] at h'
   exact ⟨h'.1.2,h'.2.1⟩
 obtain ⟨rfl,rfl⟩:=hoff
 rw [Nat.zero_add] at h3
 have hcell:∀m,m < [Value.int .u64 c].length->(w.cell? ⟨g,k*1+m,none⟩).isSome=true:=fun m hm=>by
  simp at hm
  subst hm
  rw [r3.1.cellAt _ (by omega),List.getElem?_eq_getElem (by rw [r3.1.1];omega)];rfl
 have hrun:=run_storeCells_cells (P:=P) g (k*1) [Value.int .u64 c] 0 w (fun m hm=>by rw [Nat.add_zero];exact hcell m hm) (fun m _=>r3.1.frozenAt _) (fun v hv=>by rw [List.mem_singleton.1 hv];rfl)
 rw [Nat.add_zero] at hrun
 have hst:=ei.storeCells [Value.int .u64 c] (k*1) rows.flatten w r3 (fun v hv=>by
  rw [List.mem_singleton.1 hv]
  intro k' m hk' e
  injection e with e
  exact hk' e.symm)
 have hgr:w.grownBy (w.setCells g (k*1) [Value.int .u64 c]) (some g):=jV g _ _ _
 have hkp:Kp w (w.setCells g (k*1) [Value.int .u64 c]):=r3.kp hgr
 have hLg:L g:=hb xS g rfl (by rw [h1];rfl)
 refine ⟨w.setCells g (k*1) [Value.int .u64 c],some g,?_,hgr,fun m hm=>Option.some.inj hm▸hLg,hkp,fun m q v hm h4 h5=>?_,fun x0 hx0=>?_⟩
 ·have e0:Instr.sureAddr (.pointer (some ⟨g,k*1,none⟩))=pure ⟨g,k*1,none⟩:=rfl
  unfold execOp
  simp only [ho,h3,hval]
  simp only [Instr.storeAt,e0,storeVar,Value.cells,Sem.run_bind,Sem.run_pure,Result.andThen_ok,run_sizeOf hz]
  have hrun':=hrun
  simp only [Nat.mul_one] at hrun'
  simp [hrun']
 ·have hbk:=hgr.block m (World.block_lt_of_cell? _ _ h4) (fun e'=>hm m e'.symm rfl)
  refine ⟨by rw [World.cell?_of_block hbk];exact h4,?_⟩
  simp only [World.frozen?,hbk] at h5 ⊢
  exact h5
 ·simp only [List.dropLast_cons_cons,List.getElem?_cons_zero,Option.some.injEq] at hx0
  subst hx0
  rw [h1]
  refine ⟨⟨⟨⟨_,_,_,rfl⟩,fun _ h=>by cases h⟩,fun s hs w1 hw=>?_⟩,trivial⟩
  simp only [List.mem_singleton] at hs
  subst hs
  show Φ x w1 _
  rw [hx]
  refine ⟨rows.set k [Value.int .u64 c],by simp [r1],fun r' hr'=>?_,?_,fun m r' hr'=>?_⟩
  ·rcases List.mem_or_eq_of_mem_set hr' with h | h
   ·exact r2 r' h
   ·rw [h];rfl
  ·rw [EL r2 rfl]
   refine hst.keep fun m hm'=>hw.2 m (hst.lt m hm') fun hx'=>?_
   simp only [Value.ownBlock,Option.some.injEq] at hm'
   subst hm'
   exact hLX _ hLg hx'
  ·rw [List.getElem?_set] at hr'
   split at hr'
   ·rename_i e'
    subst e'
    split at hr'
    ·simp only [Option.some.injEq] at hr'
     subst hr'
     show Value.agg #[.int .u64 c] = .agg #[.int .u64 (Z' _)]
     rw [hG']
    ·cases hr'
   ·rename_i e'
    have:=r4 m r' hr'
    show Value.agg r'.toArray = .agg #[.int .u64 (Z' m)]
    rw [<- hF' m fun h=>e' h.symm]
    exact this
end
theorem TX:(prog.info? 99).map (fun i=>(i.zero,i.size,i.bytes))=some (some (.int .u64 0),1,8):=by kernel_rfl
section
variable {Z:Nat->Int}
theorem TY (hp:∀w v,Φ p w v->v = .int .i64 (n:Int)) (hF:∀i,Z i=0) (hx:Φ x=ah 1 99 (aA .u64 Z) n) (hn:n<=1000000:=by omega):aj Φ prog ⟨0,[.fact p,.fact p],[oS x],.loose [] j 0 (fE 116)⟩:=by
 obtain ⟨i0,hi,hz0,hz1,hz2⟩:=info_parts TX
 refine xd underlying116 hi hz0 hz1 hz2 rfl (fun u hu=>?_) hp hn (fun k w=>?_) hx
 ·have hu':u ∈ [Value.int .u64 0]:=hu
  rw [List.mem_singleton.1 hu']
  intro k m hk e
  injection e with e
  exact hk e.symm
 ·show Value.agg #[.int .u64 0] = .agg #[.int .u64 (Z k)]
  rw [hF k]
theorem xe  (h0:0<=a) (h1:a<4294967296):IntKind.u64.wrap a=a:=by
 obtain ⟨b,rfl⟩:=Int.eq_ofNat_of_zero_le h0
 exact wrap64 (by omega)
theorem TZ {v:Value}{xs:List Nat} (h:Sl w .u32 v xs):Rw 1 (aA .u32 (fun i=>((xs.getD i 0:Nat):Int))) xs.length w v:=by
 obtain ⟨s,cap,rfl,h1,h2,h3⟩:=h
 refine ⟨s,cap,rfl,h1,fun i hi=>?_⟩
 rcases h3 with h3 | ⟨b,off,rfl,h4,h5⟩
 ·subst h3
  exact absurd hi (Nat.not_lt_zero _)
 ·refine ⟨b,off,rfl,[.int .u32 ((xs.getD i 0:Nat):Int)],rfl,fun j u hj=>?_,rfl⟩
  cases j with
  | zero=>
   simp only [List.getElem?_cons_zero,Option.some.injEq] at hj
   subst hj
   rw [Nat.mul_one,Nat.add_zero]
   exact h5 i hi
  | succ j=>simp at hj
end
def mU (T:TypeId):Op->Option (List Operand)
 | .build t parts=>match parts.toList with
  | [(0,.const (.int .u64 2)),(1,.const (.int .u64 3)),(2,.const (.int .u64 5)),(3,.const (.int .u64 7))]=>if t=T then some [] else none
  | _=>none
 | _=>none
theorem qA :aj Φ prog ⟨0,[],[⟨.agg [.lit (.ci .u64 2),.lit (.ci .u64 3),.lit (.ci .u64 5),.lit (.ci .u64 7)],[]⟩],.quiet (mU 153)⟩:=fun X w ac o xs _ hm ha=>by
 unfold mU at hm
 split at hm
 case h_2=>cases hm
 rename_i t parts ho
 split at hm
 case h_2=>cases hm
 rename_i hp
 split at hm
 case isFalse=>cases hm
 rename_i ht
 subst ht
 have hp':parts = #[(0,.const (.int .u64 2)),(1,.const (.int .u64 3)),(2,.const (.int .u64 5)),(3,.const (.int .u64 7))]:=by apply Array.ext';exact hp
 subst hp'
 refine ⟨.agg #[.int .u64 2,.int .u64 3,.int .u64 5,.int .u64 7],w,?_,bh w none,⟨⟨⟨[.int .u64 2,.int .u64 3,.int .u64 5,.int .u64 7],rfl,rfl,rfl,rfl,rfl,trivial⟩,fun _ h=>(by cases h)⟩,trivial⟩⟩
 unfold execOp
 have hb:(Instr.build 153 #[(0,.int .u64 2),(1,.int .u64 3),(2,.int .u64 5),(3,.int .u64 7)]).run prog w = .ok (.agg #[.int .u64 2,.int .u64 3,.int .u64 5,.int .u64 7]) w:=run_build w _ _ _ (by kernel_rfl)
 have hb':(Instr.build 153 #[(0,ac.eval (.const (.int .u64 2))),(1,ac.eval (.const (.int .u64 3))),(2,ac.eval (.const (.int .u64 5))),(3,ac.eval (.const (.int .u64 7)))]).run prog w = .ok (.agg #[.int .u64 2,.int .u64 3,.int .u64 5,.int .u64 7]) w:=hb
 simp [ho,hb']
def gl (T:TypeId):Op->Option (List Operand)
 | .index t x y=>if t=T then some [x,y] else none
 | _=>none
theorem gQ {a0 a1 a2 a3 c:Atom} (i:Nat) (hi:([a0,a1,a2,a3]:List Atom)[i]?=some c):aj Φ prog ⟨0,[.parts (.agg [.lit a0,.lit a1,.lit a2,.lit a3]) [],.lit (.ci .i64 (i:Int))],[⟨.one (.lit c),[]⟩],.quiet (gl 153)⟩:=fun X w ac o xs _ hm ha=>by
 unfold gl at hm
 split at hm
 case h_2=>cases hm
 rename_i t y z ho
 split at hm
 case isFalse=>cases hm
 rename_i ht
 subst ht
 simp only [Option.some.injEq] at hm
 subst hm
 obtain ⟨⟨⟨vs,hv,hall⟩,_⟩,h2,_⟩:=ha
 have hi2:ac.eval z = .int .i64 (i:Int):=h2
 match vs,hall with
 | [v0,v1,v2,v3],⟨e0,e1,e2,e3,_⟩=>
  have qB:v0=a0.ev aO:=e0
  have e1':v1=a1.ev aO:=e1
  have e2':v2=a2.ev aO:=e2
  have e3':v3=a3.ev aO:=e3
  subst qB e1' e2' e3'
  have hlt:i<4:=(List.getElem?_eq_some_iff.1 hi).1
  have hg:([a0.ev aO,a1.ev aO,a2.ev aO,a3.ev aO]:List Value)[i]?=some (c.ev aO):=by
   have:=congrArg (Option.map (Atom.ev aO)) hi
   rw [<- List.getElem?_map] at this
   exact this
  refine ⟨c.ev aO,w,?_,bh w none,⟨⟨⟨rfl,fun l h=>by cases c <;> cases h⟩,fun _ h=>by cases h⟩,trivial⟩⟩
  unfold execOp
  have hv':ac.eval y = .agg #[a0.ev aO,a1.ev aO,a2.ev aO,a3.ev aO]:=hv
  have Ua:(Go.part 99 #[a0.ev aO,a1.ev aO,a2.ev aO,a3.ev aO] i).run prog w = .ok (c.ev aO) w:=by
   have hb:ia prog 99=some false:=by kernel_rfl
   simp [Go.part,ib hb,hg]
  have hs:ee prog 99=some 1:=by kernel_rfl
  simp only [ho,hv',hi2]
  have h0:(0:Int)<=(i:Int):=by omega
  have h4:(i:Int)<((4:Nat):Int):=by omega
  simp [Instr.index,asIntOf,run_underlying underlying153,run_sizeOf hs,Ua,hlt]
def xf (x e p:Nat):List WP:=[Nu ((x:Nat):Int),Nu ((e:Nat):Int),Nu ((p:Nat):Int),Nu ((pwX x p 0:Nat):Int),Nu ((x ^ e % p:Nat):Int)]
def Ub (x e p:Nat) (j:Nat):List WP:=[Nu ((pwX x p j:Nat):Int),Nu ((e / 2 ^ j:Nat):Int),Nu ((pwO x e p j:Nat):Int),Nu ((e / 2 ^ j % 2:Nat):Int),Nu ((pwO x e p j*pwX x p j:Nat):Int),Nu ((pwO x e p (j+1):Nat):Int),Nu ((pwX x p j*pwX x p j:Nat):Int),Nu ((pwX x p (j+1):Nat):Int),Nu ((e / 2 ^ (j+1):Nat):Int),Nu ((e / 2 ^ j % 2:Nat):Int),Nu ((pwX x p j*pwX x p j:Nat):Int),Nu ((pwX x p (j+1):Nat):Int),Nu ((e / 2 ^ (j+1):Nat):Int)]
def EM:bf:=⟨[2,6,8,9,10],[(.slot 0,.nk),(.slot 1,.nk),(.slot 7,.nk)],[(.one 0,5),(.one 1,6),(.one 2,7)],[.frm 3,.frm 1,.closed (.one (.ci .u64 1))],5,[(7,4)]⟩
def EN:List Step:=[bQ [6,.lit (.ci .u64 0)] oT (aD .gtr),bQ [6,.lit (.ci .u64 2)] [oK 8] (aD .rem),bQ [8,.lit (.ci .u64 1)] oT (aD .eql),bQ [7,5] [oK 9] (aD .mul),bQ [9,2] [oK 10] (aD .rem),bQ [5,5] [oK 11] (aD .mul),bQ [11,2] [oK 12] (aD .rem),bQ [6,.lit (.ci .u64 2)] [oK 13] (aD .quo)]
def EO:List Step:=[bQ [6,.lit (.ci .u64 0)] oT (aD .gtr),bQ [6,.lit (.ci .u64 2)] [oK 14] (aD .rem),bQ [14,.lit (.ci .u64 1)] oF (aD .eql),bQ [5,5] [oK 15] (aD .mul),bQ [15,2] [oK 16] (aD .rem),bQ [6,.lit (.ci .u64 2)] [oK 17] (aD .quo)]
def Uc:List Step:=[bQ [6,.lit (.ci .u64 0)] oF (aD .gtr)]
def Ud:List Step:=[bQ [0,2] [oK 3] (aD .rem),.loop EM [(EN,[.frm 12,.frm 13,.frm 10]),(EO,[.frm 16,.frm 17,.frm 7])] Uc]
def Ue:List Out:=[oK 0,oK 1,oK 2]
theorem Uf {e:Nat} (hp:1<p) (ft:p<2147483648) (he:e<18446744073709551616) (_hx:x<18446744073709551616):aj (ph (xf x e p)) prog ⟨134,[0,1,2],[oK 4],false⟩:=by
 have hp0:0<p:=by omega
 exact aV Ue [oK 4] Ud func134 (by kernel_rfl) (lB (bF (op:=.rem) ad ad (jS rfl hp0) rfl) (bk (counted (bits e) (fun j=>ph (xf x e p ++ Ub x e p j)) (fun j=>if e / 2 ^ j % 2=1 then 0 else 1) (fun j p hp=>bm (show p<(xf x e p).length from hp)) ⟨ad,fun _ _ h=>h.trans (congrArg (fun (n:Nat)=>Value.int .u64 (n:Int)) (by rw [Nat.pow_zero,Nat.div_one])),fun _=>rfl,trivial⟩ (fun j hj=>by
   skip
   by_cases hcj:e / 2 ^ j % 2=1
   ·skip
    exact ⟨(EN,[.frm 12,.frm 13,.frm 10]),by rw [if_pos hcj];rfl,⟨ad,ad,ad,trivial⟩,(lB (dl (op:=.gtr) ad (cA (decide_eq_true (by have:=BU hj;generalize e / 2 ^ j=q at *;omega)) (by simp))) (lB (cG (op:=.rem) ad (eM rfl (Int.natCast_nonneg _) (by decide)) rfl) (lB (dl (op:=.eql) ad (cA (beq_iff_eq.2 (by omega)) (by simp))) (lB (bF (op:=.mul) ad ad (oG rfl (by have h1:=vn (x:=x) hp0 j;have h2:=pW (x:=x) (e:=e) hp j;have h3:=oJ (a:=pwO x e p j) (b:=pwX x p j);omega)) rfl) (lB (bF (op:=.rem) ad ad (jS (by rw [pwO,if_pos hcj]) hp0) rfl) (lB (bF (op:=.mul) ad ad (oG rfl (by have h1:=vn (x:=x) hp0 j;have h2:=pW (x:=x) (e:=e) hp j;have h3:=oJ (a:=pwX x p j) (b:=pwX x p j);omega)) rfl) (lB (bF (op:=.rem) ad ad (jS rfl hp0) rfl) (lB (cG (op:=.quo) ad (jU (by rw [Nat.pow_succ,<- Nat.div_div_eq_div_mul];rfl) (Int.natCast_nonneg _) (by decide) (by have:=Nat.div_le_self e (2 ^ j);generalize e / 2 ^ j=q at *;omega)) rfl) au))))))))⟩
   ·skip
    exact ⟨(EO,[.frm 16,.frm 17,.frm 7]),by rw [if_neg hcj];rfl,⟨ad,ad,fun _ _ h=>h.trans (congrArg (fun (n:Nat)=>Value.int .u64 (n:Int)) (by rw [pwO,if_neg hcj])),trivial⟩,(lB (dl (op:=.gtr) ad (cA (decide_eq_true (by have:=BU hj;generalize e / 2 ^ j=q at *;omega)) (by simp))) (lB (cG (op:=.rem) ad (eM rfl (Int.natCast_nonneg _) (by decide)) rfl) (lB (ueF ad) (lB (bF (op:=.mul) ad ad (oG rfl (by have h1:=vn (x:=x) hp0 j;have h2:=pW (x:=x) (e:=e) hp j;have h3:=oJ (a:=pwX x p j) (b:=pwX x p j);omega)) rfl) (lB (bF (op:=.rem) ad ad (jS rfl hp0) rfl) (lB (cG (op:=.quo) ad (jU (by rw [Nat.pow_succ,<- Nat.div_div_eq_div_mul];rfl) (Int.natCast_nonneg _) (by decide) (by have:=Nat.div_le_self e (2 ^ j);generalize e / 2 ^ j=q at *;omega)) rfl) au))))))⟩) (lB (dl (op:=.gtr) ad (cA (decide_eq_false (by rw [BT e];decide)) (by simp))) au)
   (fun q hq w v h=>by
    simp only [EM,List.mem_cons,List.not_mem_nil,or_false] at hq
    rcases hq with rfl
    ·exact (fun h=>h.trans (congrArg (fun (n:Nat)=>Value.int .u64 (n:Int)) (Pg hp (BT e)))) h)) au))
  (aK [.fact 0 (.one (.nk)),.fact 1 (.one (.nk)),.fact 2 (.one (.nk))] ⟨fun _ _ h=>h▸cJ _ _,fun _ _ h=>h▸cJ _ _,fun _ _ h=>h▸cJ _ _,trivial⟩) (fun _ _ _ h=>h)
section
variable {q r y e P:Nat}
theorem tt (h1:∀w v,Φ p w v->v = .int .u64 ((x:Nat):Int)) (h2:∀w v,Φ q w v->v = .int .u64 ((e:Nat):Int)) (h3:∀w v,Φ r w v->v = .int .u64 ((P:Nat):Int)) (hy:Φ y=Nu ((x ^ e % P:Nat):Int)) (hp:1<P:=by omega) (ft:P<2147483648:=by omega) (he:e<18446744073709551616:=by omega) (hx:x<18446744073709551616:=by omega):aj Φ prog ⟨134,[.fact p,.fact q,.fact r],[oK y],false⟩:=
 aW (Uf hp ft he hx) ⟨h1,h2,h3,trivial⟩ ⟨⟨rfl,⟨rfl,rfl,fun _ _ h=>hy▸h⟩,trivial⟩,trivial⟩
end
def Ug (x p:Nat):List WP:=[Nu ((x:Nat):Int),Nu ((p:Nat):Int),Nu ((p-2:Nat):Int),Nu ((x ^ (p-2) % p:Nat):Int)]
def Uh:List Step:=[bQ [1,.lit (.ci .u64 2)] [oK 2] (aD .sub),.base ⟨134,[0,2,1],[oK 3],false⟩]
def Ui:List Out:=[oK 0,oK 1]
theorem Uj  (hp:1<p) (ft:p<2147483648) (hx:x<18446744073709551616:=by omega):aj (ph (Ug x p)) prog ⟨118,[0,1],[oK 3],false⟩:=aV Ui [oK 3] Uh func118 (by kernel_rfl) (lB (cG (op:=.sub) ad (fg (by omega) (by omega) (by omega) (by omega)) rfl) (lB (tt (x:=x) (e:=(p-2)) (P:=p) ad ad ad rfl) au))
  (aK [.fact 0 (.one (.nk)),.fact 1 (.one (.nk))] ⟨fun _ _ h=>h▸cJ _ _,fun _ _ h=>h▸cJ _ _,trivial⟩) (fun _ _ _ h=>h)
section
variable {q y P:Nat}
theorem qC (h1:∀w v,Φ p w v->v = .int .u64 a) (h2:∀w v,Φ q w v->v = .int .u64 ((P:Nat):Int)) (hy:Φ y=Nu (ct P a)) (h0:0<=a) (ha:a<18446744073709551616) (hp:1<P:=by omega) (ft:P<2147483648:=by omega):aj Φ prog ⟨118,[.fact p,.fact q],[oK y],false⟩:=by
 obtain ⟨x,rfl⟩:=Int.eq_ofNat_of_zero_le h0
 exact aW (Uj hp ft) ⟨h1,h2,trivial⟩ ⟨⟨rfl,⟨rfl,rfl,fun _ _ h=>hy▸h⟩,trivial⟩,trivial⟩
end
def xg (n b d:Nat):List WP:=[Nu ((n:Nat):Int),Nu ((b:Nat):Int),Nu ((n-1:Nat):Int),Nu (((n-1) / 2:Nat):Int),Nu ((d:Nat):Int),Nu ((b ^ d % n:Nat):Int)]
def Uk (n m:Nat) (j:Nat):List WP:=[Nu (((n-1) / 2 / 2 ^ j:Nat):Int),Nu (((n-1) / 2 / 2 ^ j % 2:Nat):Int),Nu (((n-1) / 2 / 2 ^ (j+1):Nat):Int),Nu (((n-1) / 2 / 2 ^ m % 2:Nat):Int)]
def EP:bf:=⟨[0,1,4,7,8,9],[(.slot 5,.nk)],[(.one 0,6)],[.frm 3],6,[(6,4)]⟩
def EQ:List Step:=[bQ [6,.lit (.ci .u64 2)] [oK 7] (aD .rem),bQ [7,.lit (.ci .u64 0)] oT (aD .eql),bQ [6,.lit (.ci .u64 2)] [oK 8] (aD .quo)]
def Ul:List Step:=[bQ [6,.lit (.ci .u64 2)] [oK 9] (aD .rem),bQ [9,.lit (.ci .u64 0)] oF (aD .eql)]
def Um:List Step:=[bQ [0,.lit (.ci .u64 1)] [oK 2] (aD .sub),bQ [2,.lit (.ci .u64 2)] [oK 3] (aD .quo),.loop EP [(EQ,[.frm 8])] Ul,.base ⟨134,[1,4,0],[oK 5],false⟩,bQ [5,.lit (.ci .u64 1)] oT (aD .eql)]
def Un:List Out:=[oK 0,oK 1]
theorem Uo {b x:Nat} (hn:3<=n) (dL:n<2147483648) (hb:b<18446744073709551616) (hm0:∀j,j<m->(n-1) / 2 / 2 ^ j % 2=0) (hm1:(n-1) / 2 / 2 ^ m % 2=1) (hd:(n-1) / 2 / 2 ^ m=d) (hdl:d<2147483648) (hx:b ^ d % n=x) (hx1:x=1):aj (ph (xg n b d)) prog ⟨133,[0,1],oT,false⟩:=aV Un oT Um func133 (by kernel_rfl) (lB (cG (op:=.sub) ad (fg (by omega) (by omega) (by omega) (by omega)) rfl) (lB (cG (op:=.quo) ad (jU rfl (by omega) (by omega) (by omega)) rfl) (bk (counted m (fun j=>ph (xg n b d ++ Uk n m j)) (fun _=>0) (fun j p hp=>bm (show p<(xg n b d).length from hp)) ⟨fun _ _ h=>h.trans (congrArg (fun (n:Nat)=>Value.int .u64 (n:Int)) (by rw [Nat.pow_zero,Nat.div_one])),trivial⟩ (fun j hj=>by
   skip
   exact ⟨(EQ,[.frm 8]),rfl,⟨ad,trivial⟩,(lB (cG (op:=.rem) ad (eM rfl (Int.natCast_nonneg _) (by decide)) rfl) (lB (dl (op:=.eql) ad (cA (beq_iff_eq.2 (by have:=hm0 j hj;omega)) (by simp))) (lB (cG (op:=.quo) ad (jU (by rw [Nat.pow_succ,<- Nat.div_div_eq_div_mul];rfl) (Int.natCast_nonneg _) (by decide) (by have:=Nat.div_le_self ((n-1) / 2) (2 ^ j);generalize (n-1) / 2 / 2 ^ j=q at *;omega)) rfl) au)))⟩) (lB (cG (op:=.rem) ad (eM rfl (Int.natCast_nonneg _) (by decide)) rfl) (lB (ueF ad) au))
   (fun q hq w v h=>by
    simp only [EP,List.mem_cons,List.not_mem_nil,or_false] at hq
    rcases hq with rfl
    ·exact (fun h=>h.trans (congrArg (fun (n:Nat)=>Value.int .u64 (n:Int)) hd)) h)) (lB (tt (x:=b) (e:=d) (P:=n) ad ad ad rfl) (lB (dl (op:=.eql) ad (cA (beq_iff_eq.2 (by omega)) (by simp))) au)))))
  (aK [.fact 0 (.one (.nk)),.fact 1 (.one (.nk))] ⟨fun _ _ h=>h▸cJ _ _,fun _ _ h=>h▸cJ _ _,trivial⟩) (fun _ _ _ h=>h)
def qD (n b d:Nat):List WP:=[Nu ((n:Nat):Int),Nu ((b:Nat):Int),Nu ((n-1:Nat):Int),Nu (((n-1) / 2:Nat):Int),Nu ((d:Nat):Int),Nu ((b ^ d % n:Nat):Int)]
def Up (n d x:Nat) (i:Nat):List WP:=[Nu ((d*2 ^ i:Nat):Int),Nu ((sqX x n i:Nat):Int),Nu ((n-1:Nat):Int),Nu ((n-1:Nat):Int),Nu ((sqX x n i*sqX x n i:Nat):Int),Nu ((sqX x n (i+1):Nat):Int),Nu ((d*2 ^ (i+1):Nat):Int),Nu ((n-1:Nat):Int),Nu ((n-1:Nat):Int)]
def Uq:bf:=⟨[0,1,4,7,8,9,10,11,12,15,16,17,18,19,20],[(.slot 5,.nk),(.slot 6,.nk)],[(.one 0,6),(.one 1,7)],[.frm 4,.frm 5],6,[]⟩
def ER:List Step:=[bQ [0,.lit (.ci .u64 1)] [oK 8] (aD .sub),bQ [6,8] oT (aD .lss),bQ [0,.lit (.ci .u64 1)] [oK 9] (aD .sub),bQ [7,9] oF (aD .eql),bQ [7,7] [oK 10] (aD .mul),bQ [10,0] [oK 11] (aD .rem),bQ [6,.lit (.ci .u64 2)] [oK 12] (aD .mul)]
def Ur:List Step:=[bQ [0,.lit (.ci .u64 1)] [oK 13] (aD .sub),bQ [6,13] oT (aD .lss),bQ [0,.lit (.ci .u64 1)] [oK 14] (aD .sub),bQ [7,14] oT (aD .eql)]
def Us (n m j:Nat) (_j:Nat):List WP:=[Nu (((n-1) / 2 / 2 ^ j:Nat):Int),Nu (((n-1) / 2 / 2 ^ j % 2:Nat):Int),Nu (((n-1) / 2 / 2 ^ (j+1):Nat):Int),Nu (((n-1) / 2 / 2 ^ m % 2:Nat):Int)]
def ES:bf:=⟨[0,1,4,7,8,9],[(.slot 5,.nk)],[(.one 0,6)],[.frm 3],6,[(6,4)]⟩
def ET:List Step:=[bQ [6,.lit (.ci .u64 2)] [oK 7] (aD .rem),bQ [7,.lit (.ci .u64 0)] oT (aD .eql),bQ [6,.lit (.ci .u64 2)] [oK 8] (aD .quo)]
def Ut:List Step:=[bQ [6,.lit (.ci .u64 2)] [oK 9] (aD .rem),bQ [9,.lit (.ci .u64 0)] oF (aD .eql)]
def Uu:List Step:=[bQ [0,.lit (.ci .u64 1)] [oK 2] (aD .sub),bQ [2,.lit (.ci .u64 2)] [oK 3] (aD .quo),.loop ES [(ET,[.frm 8])] Ut,.base ⟨134,[1,4,0],[oK 5],false⟩,bQ [5,.lit (.ci .u64 1)] oF (aD .eql),.loop Uq [(ER,[.frm 12,.frm 11])] Ur]
def Uv:List Out:=[oK 0,oK 1]
theorem Uw {b:Nat} (hn:3<=n) (dL:n<2147483648) (hb:b<18446744073709551616) (hm0:∀j,j<m->(n-1) / 2 / 2 ^ j % 2=0) (hm1:(n-1) / 2 / 2 ^ m % 2=1) (hd:(n-1) / 2 / 2 ^ m=d) (hdl:d<2147483648) (hx:b ^ d % n=x) (hx1:x≠1) (hs:∀i,sqX x n i<2147483648) (hk:∀k,k<j->d*2 ^ k<n-1∧sqX x n k≠n-1) (h1:d*2 ^ j<n-1) (h2:sqX x n j=n-1):aj (ph (qD n b d)) prog ⟨133,[0,1],oT,false⟩:=aV Uv oT Uu func133 (by kernel_rfl) (lB (cG (op:=.sub) ad (fg (by omega) (by omega) (by omega) (by omega)) rfl) (lB (cG (op:=.quo) ad (jU rfl (by omega) (by omega) (by omega)) rfl) (bk (counted m (fun j=>ph (qD n b d ++ Us n m j j)) (fun _=>0) (fun j p hp=>bm (show p<(qD n b d).length from hp)) ⟨fun _ _ h=>h.trans (congrArg (fun (n:Nat)=>Value.int .u64 (n:Int)) (by rw [Nat.pow_zero,Nat.div_one])),trivial⟩ (fun j hj=>by
   skip
   exact ⟨(ET,[.frm 8]),rfl,⟨ad,trivial⟩,(lB (cG (op:=.rem) ad (eM rfl (Int.natCast_nonneg _) (by decide)) rfl) (lB (dl (op:=.eql) ad (cA (beq_iff_eq.2 (by have:=hm0 j hj;omega)) (by simp))) (lB (cG (op:=.quo) ad (jU (by rw [Nat.pow_succ,<- Nat.div_div_eq_div_mul];rfl) (Int.natCast_nonneg _) (by decide) (by have:=Nat.div_le_self ((n-1) / 2) (2 ^ j);generalize (n-1) / 2 / 2 ^ j=q at *;omega)) rfl) au)))⟩) (lB (cG (op:=.rem) ad (eM rfl (Int.natCast_nonneg _) (by decide)) rfl) (lB (ueF ad) au))
   (fun q hq w v h=>by
    simp only [ES,List.mem_cons,List.not_mem_nil,or_false] at hq
    rcases hq with rfl
    ·exact (fun h=>h.trans (congrArg (fun (n:Nat)=>Value.int .u64 (n:Int)) hd)) h)) (lB (tt (x:=b) (e:=d) (P:=n) ad ad ad rfl) (lB (ueF ad) (bk (counted j (fun i=>ph (qD n b d ++ Up n d x i)) (fun _=>0) (fun i p hp=>bm (show p<(qD n b d).length from hp)) ⟨fun _ _ h=>h.trans (congrArg (fun (n:Nat)=>Value.int .u64 (n:Int)) (by rw [Nat.pow_zero,Nat.mul_one])),fun _ _ h=>h.trans (congrArg (fun (n:Nat)=>Value.int .u64 (n:Int)) hx),trivial⟩ (fun i hi=>by
   skip
   exact ⟨(ER,[.frm 12,.frm 11]),rfl,⟨ad,ad,trivial⟩,(lB (cG (op:=.sub) ad (fg (by omega) (by omega) (by omega) (by omega)) rfl) (lB (kU (op:=.lss) ad ad (cA (decide_eq_true (by have:=(hk i hi).1;omega)) (by simp))) (lB (cG (op:=.sub) ad (fg (by omega) (by omega) (by omega) (by omega)) rfl) (lB (kU (op:=.eql) ad ad (cA (beq_eq_false_iff_ne.2 (by have:=(hk i hi).2;omega)) (by simp))) (lB (bF (op:=.mul) ad ad (oG rfl (by have h1:=hs i;have:=oJ (ha:=h1) (hb:=h1);omega)) rfl) (lB (bF (op:=.rem) ad ad (jS rfl (by omega)) rfl) (lB (cG (op:=.mul) ad (jT (by rw [Nat.pow_succ,<- Nat.mul_assoc];rfl) (Int.natCast_nonneg _) (by decide) (by have:=(hk i (by omega)).1;rw [Nat.pow_succ,<- Nat.mul_assoc];omega)) rfl) au)))))))⟩) (lB (cG (op:=.sub) ad (fg (by omega) (by omega) (by omega) (by omega)) rfl) (lB (kU (op:=.lss) ad ad (cA (decide_eq_true (by omega)) (by simp))) (lB (cG (op:=.sub) ad (fg (by omega) (by omega) (by omega) (by omega)) rfl) (lB (kU (op:=.eql) ad ad (cA (beq_iff_eq.2 (by omega)) (by simp))) au))))
   (fun q hq=>by cases hq)) au))))))
  (aK [.fact 0 (.one (.nk)),.fact 1 (.one (.nk))] ⟨fun _ _ h=>h▸cJ _ _,fun _ _ h=>h▸cJ _ _,trivial⟩) (fun _ _ _ h=>h)
def qE (n b d:Nat):List WP:=[Nu ((n:Nat):Int),Nu ((b:Nat):Int),Nu ((n-1:Nat):Int),Nu (((n-1) / 2:Nat):Int),Nu ((d:Nat):Int),Nu ((b ^ d % n:Nat):Int)]
def Ux (n d x:Nat) (i:Nat):List WP:=[Nu ((d*2 ^ i:Nat):Int),Nu ((sqX x n i:Nat):Int),Nu ((n-1:Nat):Int),Nu ((n-1:Nat):Int),Nu ((sqX x n i*sqX x n i:Nat):Int),Nu ((sqX x n (i+1):Nat):Int),Nu ((d*2 ^ (i+1):Nat):Int),Nu ((n-1:Nat):Int)]
def Uy:bf:=⟨[0,1,4,7,8,9,10,11,12,15,16,17,18,19,20],[(.slot 5,.nk),(.slot 6,.nk)],[(.one 0,6),(.one 1,7)],[.frm 4,.frm 5],6,[]⟩
def EU:List Step:=[bQ [0,.lit (.ci .u64 1)] [oK 8] (aD .sub),bQ [6,8] oT (aD .lss),bQ [0,.lit (.ci .u64 1)] [oK 9] (aD .sub),bQ [7,9] oF (aD .eql),bQ [7,7] [oK 10] (aD .mul),bQ [10,0] [oK 11] (aD .rem),bQ [6,.lit (.ci .u64 2)] [oK 12] (aD .mul)]
def Uz:List Step:=[bQ [0,.lit (.ci .u64 1)] [oK 13] (aD .sub),bQ [6,13] oF (aD .lss)]
def UA (n m j:Nat) (_j:Nat):List WP:=[Nu (((n-1) / 2 / 2 ^ j:Nat):Int),Nu (((n-1) / 2 / 2 ^ j % 2:Nat):Int),Nu (((n-1) / 2 / 2 ^ (j+1):Nat):Int),Nu (((n-1) / 2 / 2 ^ m % 2:Nat):Int)]
def EV:bf:=⟨[0,1,4,7,8,9],[(.slot 5,.nk)],[(.one 0,6)],[.frm 3],6,[(6,4)]⟩
def EW:List Step:=[bQ [6,.lit (.ci .u64 2)] [oK 7] (aD .rem),bQ [7,.lit (.ci .u64 0)] oT (aD .eql),bQ [6,.lit (.ci .u64 2)] [oK 8] (aD .quo)]
def UB:List Step:=[bQ [6,.lit (.ci .u64 2)] [oK 9] (aD .rem),bQ [9,.lit (.ci .u64 0)] oF (aD .eql)]
def UC:List Step:=[bQ [0,.lit (.ci .u64 1)] [oK 2] (aD .sub),bQ [2,.lit (.ci .u64 2)] [oK 3] (aD .quo),.loop EV [(EW,[.frm 8])] UB,.base ⟨134,[1,4,0],[oK 5],false⟩,bQ [5,.lit (.ci .u64 1)] oF (aD .eql),.loop Uy [(EU,[.frm 12,.frm 11])] Uz]
def UD:List Out:=[oK 0,oK 1]
theorem UE {b:Nat} (hn:3<=n) (dL:n<2147483648) (hb:b<18446744073709551616) (hm0:∀j,j<m->(n-1) / 2 / 2 ^ j % 2=0) (hm1:(n-1) / 2 / 2 ^ m % 2=1) (hd:(n-1) / 2 / 2 ^ m=d) (hdl:d<2147483648) (hx:b ^ d % n=x) (hx1:x≠1) (hs:∀i,sqX x n i<2147483648) (hk:∀k,k<j->d*2 ^ k<n-1∧sqX x n k≠n-1) (h1:n-1<=d*2 ^ j):aj (ph (qE n b d)) prog ⟨133,[0,1],oF,false⟩:=aV UD oF UC func133 (by kernel_rfl) (lB (cG (op:=.sub) ad (fg (by omega) (by omega) (by omega) (by omega)) rfl) (lB (cG (op:=.quo) ad (jU rfl (by omega) (by omega) (by omega)) rfl) (bk (counted m (fun j=>ph (qE n b d ++ UA n m j j)) (fun _=>0) (fun j p hp=>bm (show p<(qE n b d).length from hp)) ⟨fun _ _ h=>h.trans (congrArg (fun (n:Nat)=>Value.int .u64 (n:Int)) (by rw [Nat.pow_zero,Nat.div_one])),trivial⟩ (fun j hj=>by
   skip
   exact ⟨(EW,[.frm 8]),rfl,⟨ad,trivial⟩,(lB (cG (op:=.rem) ad (eM rfl (Int.natCast_nonneg _) (by decide)) rfl) (lB (dl (op:=.eql) ad (cA (beq_iff_eq.2 (by have:=hm0 j hj;omega)) (by simp))) (lB (cG (op:=.quo) ad (jU (by rw [Nat.pow_succ,<- Nat.div_div_eq_div_mul];rfl) (Int.natCast_nonneg _) (by decide) (by have:=Nat.div_le_self ((n-1) / 2) (2 ^ j);generalize (n-1) / 2 / 2 ^ j=q at *;omega)) rfl) au)))⟩) (lB (cG (op:=.rem) ad (eM rfl (Int.natCast_nonneg _) (by decide)) rfl) (lB (ueF ad) au))
   (fun q hq w v h=>by
    simp only [EV,List.mem_cons,List.not_mem_nil,or_false] at hq
    rcases hq with rfl
    ·exact (fun h=>h.trans (congrArg (fun (n:Nat)=>Value.int .u64 (n:Int)) hd)) h)) (lB (tt (x:=b) (e:=d) (P:=n) ad ad ad rfl) (lB (ueF ad) (bk (counted j (fun i=>ph (qE n b d ++ Ux n d x i)) (fun _=>0) (fun i p hp=>bm (show p<(qE n b d).length from hp)) ⟨fun _ _ h=>h.trans (congrArg (fun (n:Nat)=>Value.int .u64 (n:Int)) (by rw [Nat.pow_zero,Nat.mul_one])),fun _ _ h=>h.trans (congrArg (fun (n:Nat)=>Value.int .u64 (n:Int)) hx),trivial⟩ (fun i hi=>by
   skip
   exact ⟨(EU,[.frm 12,.frm 11]),rfl,⟨ad,ad,trivial⟩,(lB (cG (op:=.sub) ad (fg (by omega) (by omega) (by omega) (by omega)) rfl) (lB (kU (op:=.lss) ad ad (cA (decide_eq_true (by have:=(hk i hi).1;omega)) (by simp))) (lB (cG (op:=.sub) ad (fg (by omega) (by omega) (by omega) (by omega)) rfl) (lB (kU (op:=.eql) ad ad (cA (beq_eq_false_iff_ne.2 (by have:=(hk i hi).2;omega)) (by simp))) (lB (bF (op:=.mul) ad ad (oG rfl (by have h1:=hs i;have:=oJ (ha:=h1) (hb:=h1);omega)) rfl) (lB (bF (op:=.rem) ad ad (jS rfl (by omega)) rfl) (lB (cG (op:=.mul) ad (jT (by rw [Nat.pow_succ,<- Nat.mul_assoc];rfl) (Int.natCast_nonneg _) (by decide) (by have:=(hk i (by omega)).1;rw [Nat.pow_succ,<- Nat.mul_assoc];omega)) rfl) au)))))))⟩) (lB (cG (op:=.sub) ad (fg (by omega) (by omega) (by omega) (by omega)) rfl) (lB (kU (op:=.lss) ad ad (cA (decide_eq_false (by omega)) (by simp))) au))
   (fun q hq=>by cases hq)) au))))))
  (aK [.fact 0 (.one (.nk)),.fact 1 (.one (.nk))] ⟨fun _ _ h=>h▸cJ _ _,fun _ _ h=>h▸cJ _ _,trivial⟩) (fun _ _ _ h=>h)
theorem UF:∀{d:Nat},0<d->d<2147483648->∃m,m<64∧(∀k,k<m->d / 2 ^ k % 2=0)∧d / 2 ^ m % 2=1:=fun {d} h0 h1=>by
 have:∀n,n<=32->(∃m,m<64∧(∀k,k<m->d / 2 ^ k % 2=0)∧d / 2 ^ m % 2=1)∨∀k,k<n->d / 2 ^ k % 2=0:=by
  intro n
  induction n with
  | zero=>exact fun _=>.inr fun k hk=>absurd hk (by omega)
  | succ n ih=>
   intro hn
   rcases ih (by omega) with h | h
   ·exact .inl h
   ·rcases Nat.mod_two_eq_zero_or_one (d / 2 ^ n) with e | e
    ·refine .inr fun k hk=>?_
     rcases Nat.lt_or_ge k n with h2 | h2
     ·exact h k h2
     ·rw [show k=n by omega];exact e
    ·exact .inl ⟨n,by omega,h,e⟩
 rcases this 32 (Nat.le_refl _) with h | h
 ·exact h
 ·have key:∀n,n<=32->2 ^ n∣d:=by
   intro n
   induction n with
   | zero=>exact fun _=>Nat.one_dvd _
   | succ n ih=>
    intro hn
    obtain ⟨c,hc⟩:=ih (by omega)
    have h2:=h n (by omega)
    rw [hc,Nat.mul_div_cancel_left _ (Nat.pow_pos (by omega))] at h2
    obtain ⟨c',hc'⟩:=Nat.dvd_of_mod_eq_zero h2
    exact ⟨c',by rw [hc,hc',Nat.pow_succ,Nat.mul_assoc]⟩
  have:=Nat.le_of_dvd h0 (key 32 (Nat.le_refl _))
  omega
theorem UG  (hx:x<n):∀i,sqX x n i<n
 | 0=>hx
 | _+1=>Nat.mod_lt _ (by omega)
theorem UH  (hn:n<2147483648) (hd:0<d):∃j,j<64∧(∀k,k<j->d*2 ^ k<n-1∧sqX x n k≠n-1)∧(n-1<=d*2 ^ j∨(d*2 ^ j<n-1∧sqX x n j=n-1)):=by
 have:∀m,m<=32->(∃j,j<64∧(∀k,k<j->d*2 ^ k<n-1∧sqX x n k≠n-1)∧(n-1<=d*2 ^ j∨(d*2 ^ j<n-1∧sqX x n j=n-1)))∨∀k,k<m->d*2 ^ k<n-1∧sqX x n k≠n-1:=by
  intro m
  induction m with
  | zero=>exact fun _=>.inr fun k hk=>absurd hk (by omega)
  | succ m ih=>
   intro hm
   rcases ih (by omega) with h | h
   ·exact .inl h
   ·rcases Nat.lt_or_ge (d*2 ^ m) (n-1) with e | e
    ·by_cases e2:sqX x n m=n-1
     ·exact .inl ⟨m,by omega,h,.inr ⟨e,e2⟩⟩
     ·refine .inr fun k hk=>?_
      rcases Nat.lt_or_ge k m with h2 | h2
      ·exact h k h2
      ·rw [show k=m by omega];exact ⟨e,e2⟩
    ·exact .inl ⟨m,by omega,h,.inl e⟩
 rcases this 32 (Nat.le_refl _) with h | h
 ·exact h
 ·have h1:=(h 31 (by omega)).1
  have h2:1*2 ^ 31<=d*2 ^ 31:=Nat.mul_le_mul_right _ hd
  omega
section
variable {b:Nat}
theorem EX (h1:∀w v,Φ p w v->v = .int .u64 ((n:Nat):Int)) (hn:3<=n) (dL:n<2147483648) (hb:b<18446744073709551616):aj Φ prog ⟨133,[.fact p,.lit (.ci .u64 ((b:Nat):Int))],[⟨.one (.lit (.cb (psb n b))),[]⟩],false⟩:=by
 obtain ⟨m,hm,hm0,hm1⟩:=UF (d:=(n-1) / 2) (by omega) (by omega)
 obtain ⟨d,hd⟩:∃d,(n-1) / 2 / 2 ^ m=d:=⟨_,rfl⟩
 have hdl:d<2147483648:=by
  have:=Nat.div_le_self ((n-1) / 2) (2 ^ m)
  omega
 have hd0:0<d:=by
  rw [<- hd]
  omega
 obtain ⟨x,hx⟩:∃x,b ^ d % n=x:=⟨_,rfl⟩
 have hxn:x<n:=by rw [<- hx];exact Nat.mod_lt _ (by omega)
 have hpw:psb n b=bif Nat.beq x 1 then true else mrl 64 n x d:=by
  unfold psb
  rw [BV (by omega) hm0 hm1,hd,Pf (Nat.lt_trans hdl (by decide)),hx]
 have hs:∀i,sqX x n i<2147483648:=fun i=>by have:=UG hxn i;omega
 have am:fu Φ (ph [Nu ((n:Nat):Int),Nu ((b:Nat):Int)]) [.fact p,.lit (.ci .u64 ((b:Nat):Int))] [0,1]:=⟨h1,fun _=>rfl,trivial⟩
 by_cases hx1:x=1
 ·rw [hpw,hx1]
  exact aW (Uo (m:=m) (d:=d) (x:=x) hn dL hb hm0 hm1 hd hdl hx hx1) ⟨h1,fun _=>rfl,trivial⟩ ⟨⟨rfl,trivial⟩,trivial⟩
 ·obtain ⟨j,hj,hk,h2⟩:=UH (x:=x) dL hd0
  rw [hpw,mF hx1,cond_false]
  rcases h2 with h2 | ⟨h2,h3⟩
  ·rw [BZ hj hk h2]
   exact aW (UE hn dL hb hm0 hm1 hd hdl hx hx1 hs hk h2) ⟨h1,fun _=>rfl,trivial⟩ ⟨⟨rfl,trivial⟩,trivial⟩
  ·rw [BW hj hk h2 h3]
   exact aW (Uw hn dL hb hm0 hm1 hd hdl hx hx1 hs hk h2 h3) ⟨h1,fun _=>rfl,trivial⟩ ⟨⟨rfl,trivial⟩,trivial⟩
theorem jW (h1:∀w v,Φ p w v->v = .int .u64 ((n:Nat):Int)) (h:psb n b=true) (hn:3<=n:=by omega) (dL:n<2147483648:=by omega) (hb:b<18446744073709551616:=by decide):aj Φ prog ⟨133,[.fact p,.lit (.ci .u64 ((b:Nat):Int))],[⟨.one (.lit (.cb true)),[]⟩],false⟩:=h▸EX h1 hn dL hb
theorem tu (h1:∀w v,Φ p w v->v = .int .u64 ((n:Nat):Int)) (h:psb n b=false) (hn:3<=n:=by omega) (dL:n<2147483648:=by omega) (hb:b<18446744073709551616:=by decide):aj Φ prog ⟨133,[.fact p,.lit (.ci .u64 ((b:Nat):Int))],[⟨.one (.lit (.cb false)),[]⟩],false⟩:=h▸EX h1 hn dL hb
end
def UI (n:Nat):List WP:=[Nu ((n:Nat):Int)]
def UJ:List Step:=[bQ [] [⟨.agg [.lit (.ci .u64 2),.lit (.ci .u64 3),.lit (.ci .u64 5),.lit (.ci .u64 7)],[]⟩] (mU 153),.rounds 1,bQ [.parts (.agg [.lit (.ci .u64 2),.lit (.ci .u64 3),.lit (.ci .u64 5),.lit (.ci .u64 7)]) [],.lit (.ci .i64 0)] [oL (.ci .u64 2)] (gl 153),bQ [0,.lit (.ci .u64 2)] oF (aD .eql),.base ⟨133,[0,.lit (.ci .u64 2)],oF,false⟩]
def UK:List Out:=[oK 0]
theorem UL  (hn:8<=n) (dL:n<2147483648)  (h2:psb n 2=false):aj (ph (UI n)) prog ⟨117,[0],oF,false⟩:=aV UK oF UJ func117 (by kernel_rfl) (lB (qA) (qF (lB (gQ 0 rfl) (lB (ueF ad) (lB (tu (n:=n) (b:=2) ad h2) au)))))
  (aK [.fact 0 (.one (.nk))] ⟨fun _ _ h=>h▸cJ _ _,trivial⟩) (fun _ _ _ h=>h)
def UM (n:Nat):List WP:=[Nu ((n:Nat):Int)]
def UN:List Step:=[bQ [] [⟨.agg [.lit (.ci .u64 2),.lit (.ci .u64 3),.lit (.ci .u64 5),.lit (.ci .u64 7)],[]⟩] (mU 153),.rounds 2,bQ [.parts (.agg [.lit (.ci .u64 2),.lit (.ci .u64 3),.lit (.ci .u64 5),.lit (.ci .u64 7)]) [],.lit (.ci .i64 0)] [oL (.ci .u64 2)] (gl 153),bQ [0,.lit (.ci .u64 2)] oF (aD .eql),.base ⟨133,[0,.lit (.ci .u64 2)],oT,false⟩,bQ [.parts (.agg [.lit (.ci .u64 2),.lit (.ci .u64 3),.lit (.ci .u64 5),.lit (.ci .u64 7)]) [],.lit (.ci .i64 1)] [oL (.ci .u64 3)] (gl 153),bQ [0,.lit (.ci .u64 3)] oF (aD .eql),.base ⟨133,[0,.lit (.ci .u64 3)],oF,false⟩]
def UO:List Out:=[oK 0]
theorem UP  (hn:8<=n) (dL:n<2147483648) (h2:psb n 2=true) (h3:psb n 3=false):aj (ph (UM n)) prog ⟨117,[0],oF,false⟩:=aV UO oF UN func117 (by kernel_rfl) (lB (qA) (qF (lB (gQ 0 rfl) (lB (ueF ad) (lB (jW (n:=n) (b:=2) ad h2) (lB (gQ 1 rfl) (lB (ueF ad) (lB (tu (n:=n) (b:=3) ad h3) au))))))))
  (aK [.fact 0 (.one (.nk))] ⟨fun _ _ h=>h▸cJ _ _,trivial⟩) (fun _ _ _ h=>h)
def UQ (n:Nat):List WP:=[Nu ((n:Nat):Int)]
def UR:List Step:=[bQ [] [⟨.agg [.lit (.ci .u64 2),.lit (.ci .u64 3),.lit (.ci .u64 5),.lit (.ci .u64 7)],[]⟩] (mU 153),.rounds 3,bQ [.parts (.agg [.lit (.ci .u64 2),.lit (.ci .u64 3),.lit (.ci .u64 5),.lit (.ci .u64 7)]) [],.lit (.ci .i64 0)] [oL (.ci .u64 2)] (gl 153),bQ [0,.lit (.ci .u64 2)] oF (aD .eql),.base ⟨133,[0,.lit (.ci .u64 2)],oT,false⟩,bQ [.parts (.agg [.lit (.ci .u64 2),.lit (.ci .u64 3),.lit (.ci .u64 5),.lit (.ci .u64 7)]) [],.lit (.ci .i64 1)] [oL (.ci .u64 3)] (gl 153),bQ [0,.lit (.ci .u64 3)] oF (aD .eql),.base ⟨133,[0,.lit (.ci .u64 3)],oT,false⟩,bQ [.parts (.agg [.lit (.ci .u64 2),.lit (.ci .u64 3),.lit (.ci .u64 5),.lit (.ci .u64 7)]) [],.lit (.ci .i64 2)] [oL (.ci .u64 5)] (gl 153),bQ [0,.lit (.ci .u64 5)] oF (aD .eql),.base ⟨133,[0,.lit (.ci .u64 5)],oF,false⟩]
def US:List Out:=[oK 0]
theorem UT  (hn:8<=n) (dL:n<2147483648) (h2:psb n 2=true) (h3:psb n 3=true) (h5:psb n 5=false):aj (ph (UQ n)) prog ⟨117,[0],oF,false⟩:=aV US oF UR func117 (by kernel_rfl) (lB (qA) (qF (lB (gQ 0 rfl) (lB (ueF ad) (lB (jW (n:=n) (b:=2) ad h2) (lB (gQ 1 rfl) (lB (ueF ad) (lB (jW (n:=n) (b:=3) ad h3) (lB (gQ 2 rfl) (lB (ueF ad) (lB (tu (n:=n) (b:=5) ad h5) au)))))))))))
  (aK [.fact 0 (.one (.nk))] ⟨fun _ _ h=>h▸cJ _ _,trivial⟩) (fun _ _ _ h=>h)
def UU (n:Nat):List WP:=[Nu ((n:Nat):Int)]
def UV:List Step:=[bQ [] [⟨.agg [.lit (.ci .u64 2),.lit (.ci .u64 3),.lit (.ci .u64 5),.lit (.ci .u64 7)],[]⟩] (mU 153),.rounds 4,bQ [.parts (.agg [.lit (.ci .u64 2),.lit (.ci .u64 3),.lit (.ci .u64 5),.lit (.ci .u64 7)]) [],.lit (.ci .i64 0)] [oL (.ci .u64 2)] (gl 153),bQ [0,.lit (.ci .u64 2)] oF (aD .eql),.base ⟨133,[0,.lit (.ci .u64 2)],oT,false⟩,bQ [.parts (.agg [.lit (.ci .u64 2),.lit (.ci .u64 3),.lit (.ci .u64 5),.lit (.ci .u64 7)]) [],.lit (.ci .i64 1)] [oL (.ci .u64 3)] (gl 153),bQ [0,.lit (.ci .u64 3)] oF (aD .eql),.base ⟨133,[0,.lit (.ci .u64 3)],oT,false⟩,bQ [.parts (.agg [.lit (.ci .u64 2),.lit (.ci .u64 3),.lit (.ci .u64 5),.lit (.ci .u64 7)]) [],.lit (.ci .i64 2)] [oL (.ci .u64 5)] (gl 153),bQ [0,.lit (.ci .u64 5)] oF (aD .eql),.base ⟨133,[0,.lit (.ci .u64 5)],oT,false⟩,bQ [.parts (.agg [.lit (.ci .u64 2),.lit (.ci .u64 3),.lit (.ci .u64 5),.lit (.ci .u64 7)]) [],.lit (.ci .i64 3)] [oL (.ci .u64 7)] (gl 153),bQ [0,.lit (.ci .u64 7)] oF (aD .eql),.base ⟨133,[0,.lit (.ci .u64 7)],oF,false⟩]
def UW:List Out:=[oK 0]
theorem UX  (hn:8<=n) (dL:n<2147483648) (h2:psb n 2=true) (h3:psb n 3=true) (h5:psb n 5=true) (h7:psb n 7=false):aj (ph (UU n)) prog ⟨117,[0],oF,false⟩:=aV UW oF UV func117 (by kernel_rfl) (lB (qA) (qF (lB (gQ 0 rfl) (lB (ueF ad) (lB (jW (n:=n) (b:=2) ad h2) (lB (gQ 1 rfl) (lB (ueF ad) (lB (jW (n:=n) (b:=3) ad h3) (lB (gQ 2 rfl) (lB (ueF ad) (lB (jW (n:=n) (b:=5) ad h5) (lB (gQ 3 rfl) (lB (ueF ad) (lB (tu (n:=n) (b:=7) ad h7) au))))))))))))))
  (aK [.fact 0 (.one (.nk))] ⟨fun _ _ h=>h▸cJ _ _,trivial⟩) (fun _ _ _ h=>h)
def UY (n:Nat):List WP:=[Nu ((n:Nat):Int)]
def UZ:List Step:=[bQ [] [⟨.agg [.lit (.ci .u64 2),.lit (.ci .u64 3),.lit (.ci .u64 5),.lit (.ci .u64 7)],[]⟩] (mU 153),.rounds 5,bQ [.parts (.agg [.lit (.ci .u64 2),.lit (.ci .u64 3),.lit (.ci .u64 5),.lit (.ci .u64 7)]) [],.lit (.ci .i64 0)] [oL (.ci .u64 2)] (gl 153),bQ [0,.lit (.ci .u64 2)] oF (aD .eql),.base ⟨133,[0,.lit (.ci .u64 2)],oT,false⟩,bQ [.parts (.agg [.lit (.ci .u64 2),.lit (.ci .u64 3),.lit (.ci .u64 5),.lit (.ci .u64 7)]) [],.lit (.ci .i64 1)] [oL (.ci .u64 3)] (gl 153),bQ [0,.lit (.ci .u64 3)] oF (aD .eql),.base ⟨133,[0,.lit (.ci .u64 3)],oT,false⟩,bQ [.parts (.agg [.lit (.ci .u64 2),.lit (.ci .u64 3),.lit (.ci .u64 5),.lit (.ci .u64 7)]) [],.lit (.ci .i64 2)] [oL (.ci .u64 5)] (gl 153),bQ [0,.lit (.ci .u64 5)] oF (aD .eql),.base ⟨133,[0,.lit (.ci .u64 5)],oT,false⟩,bQ [.parts (.agg [.lit (.ci .u64 2),.lit (.ci .u64 3),.lit (.ci .u64 5),.lit (.ci .u64 7)]) [],.lit (.ci .i64 3)] [oL (.ci .u64 7)] (gl 153),bQ [0,.lit (.ci .u64 7)] oF (aD .eql),.base ⟨133,[0,.lit (.ci .u64 7)],oT,false⟩]
def Vb:List Out:=[oK 0]
theorem Vc  (hn:8<=n) (dL:n<2147483648) (h2:psb n 2=true) (h3:psb n 3=true) (h5:psb n 5=true) (h7:psb n 7=true):aj (ph (UY n)) prog ⟨117,[0],oT,false⟩:=aV Vb oT UZ func117 (by kernel_rfl) (lB (qA) (qF (lB (gQ 0 rfl) (lB (ueF ad) (lB (jW (n:=n) (b:=2) ad h2) (lB (gQ 1 rfl) (lB (ueF ad) (lB (jW (n:=n) (b:=3) ad h3) (lB (gQ 2 rfl) (lB (ueF ad) (lB (jW (n:=n) (b:=5) ad h5) (lB (gQ 3 rfl) (lB (ueF ad) (lB (jW (n:=n) (b:=7) ad h7) au))))))))))))))
  (aK [.fact 0 (.one (.nk))] ⟨fun _ _ h=>h▸cJ _ _,trivial⟩) (fun _ _ _ h=>h)
section
variable {k P:Nat}
theorem EY (h1:∀w v,Φ p w v->v = .int .u64 ((n:Nat):Int)) (hn:8<=n) (dL:n<2147483648):aj Φ prog ⟨117,[.fact p],[⟨.one (.lit (.cb (prm n))),[]⟩],false⟩:=by
 unfold prm
 rw [mF (show n≠2 by omega),mF (show n≠3 by omega),mF (show n≠5 by omega),mF (show n≠7 by omega)]
 simp only [cond_false]
 cases h2:psb n 2
 ·exact aW (UL hn dL h2) ⟨h1,trivial⟩ ⟨⟨rfl,trivial⟩,trivial⟩
 cases h3:psb n 3
 ·exact aW (UP hn dL h2 h3) ⟨h1,trivial⟩ ⟨⟨rfl,trivial⟩,trivial⟩
 cases h5:psb n 5
 ·exact aW (UT hn dL h2 h3 h5) ⟨h1,trivial⟩ ⟨⟨rfl,trivial⟩,trivial⟩
 cases h7:psb n 7
 ·exact aW (UX hn dL h2 h3 h5 h7) ⟨h1,trivial⟩ ⟨⟨rfl,trivial⟩,trivial⟩
 ·exact aW (Vc hn dL h2 h3 h5 h7) ⟨h1,trivial⟩ ⟨⟨rfl,trivial⟩,trivial⟩
theorem Ve (h1:∀w v,Φ p w v->v = .int .u64 ((n:Nat):Int)) (h:prm n=true) (hn:8<=n:=by omega) (dL:n<2147483648:=by omega):aj Φ prog ⟨117,[.fact p],[⟨.one (.lit (.cb true)),[]⟩],false⟩:=h▸EY h1 hn dL
theorem Vf (h1:∀w v,Φ p w v->v = .int .u64 ((n:Nat):Int)) (h:prm n=false) (hn:8<=n:=by omega) (dL:n<2147483648:=by omega):aj Φ prog ⟨117,[.fact p],[⟨.one (.lit (.cb false)),[]⟩],false⟩:=h▸EY h1 hn dL
end
def xh (p m:Nat):List WP:=[Nu ((p:Nat):Int),Nu ((p-2:Nat):Int),Nu ((p-2-2*m:Nat):Int)]
def Vg (p:Nat) (j:Nat):List WP:=[Nu ((p-2-2*j:Nat):Int),Nu ((p-2-2*(j+1):Nat):Int)]
def EZ:bf:=⟨[2,3,4],[(.slot 0,.nk)],[(.one 0,3)],[.frm 1],3,[(3,2)]⟩
def Fa:List Step:=[bQ [3,.lit (.ci .u64 1)] oT (aD .gtr),.base ⟨117,[3],oF,false⟩,bQ [3,.lit (.ci .u64 2)] [oK 4] (aD .sub)]
def Vh:List Step:=[bQ [3,.lit (.ci .u64 1)] oT (aD .gtr),.base ⟨117,[3],oT,false⟩]
def Vi:List Step:=[bQ [0,.lit (.ci .u64 2)] [oK 1] (aD .sub),.loop EZ [(Fa,[.frm 4])] Vh]
def Vj:List Out:=[oK 0]
theorem Vk  (hm0:∀j,j<m->prm (p-2-2*j)=false) (hm1:prm (p-2-2*m)=true) (hp:p<2147483648:=by omega) (hm:10+2*m<=p:=by omega):aj (ph (xh p m)) prog ⟨95,[0],[oK 2],false⟩:=aV Vj [oK 2] Vi func95 (by kernel_rfl) (lB (cG (op:=.sub) ad (fg (by omega) (by omega) (by omega) (by omega)) rfl) (bk (counted m (fun j=>ph (xh p m ++ Vg p j)) (fun _=>0) (fun j p hp=>bm (show p<(xh p m).length from hp)) ⟨ad,trivial⟩ (fun j hj=>by
   skip
   exact ⟨(Fa,[.frm 4]),rfl,⟨ad,trivial⟩,(lB (ugT ad) (lB (Vf (n:=(p-2-2*j)) ad (hm0 j hj)) (lB (cG (op:=.sub) ad (fg (by omega) (by omega) (by omega) (by omega)) rfl) au)))⟩) (lB (ugT ad) (lB (Ve (n:=(p-2-2*m)) ad hm1) au))
   (fun q hq w v h=>by
    simp only [EZ,List.mem_cons,List.not_mem_nil,or_false] at hq
    rcases hq with rfl
    ·exact (fun h=>h) h)) au))
  (aK [.fact 0 (.one (.nk))] ⟨fun _ _ h=>h▸cJ _ _,trivial⟩) (fun _ _ _ h=>h)
theorem Fb:∀{f n:Nat},10<=gy f n->prm (gy f n)=true->∃m,gy f n=n-2*m∧2*m<=n∧∀j,j<m->prm (n-2*j)=false
 | 0,n,_,_=>⟨0,rfl,by omega,fun j hj=>absurd hj (by omega)⟩
 | f+1,n,h,hp=>by
  unfold gy at h hp ⊢
  cases h1:Nat.ble n 1
  ·rw [h1,cond_false] at h hp
   rw [cond_false]
   cases h2:prm n
   ·rw [h2,cond_false] at h hp
    rw [cond_false]
    obtain ⟨m,e,hm,hj⟩:=Fb h hp
    refine ⟨m+1,by rw [e];omega,by omega,fun j hj'=>?_⟩
    cases j with
    | zero=>exact h2
    | succ j=>
     have:=hj j (by omega)
     rwa [show n-2-2*j=n-2*(j+1) by omega] at this
   ·rw [cond_true]
    exact ⟨0,rfl,by omega,fun j hj=>absurd hj (by omega)⟩
  ·rw [h1,cond_true] at h
   have:=Nat.le_of_ble_eq_true h1
   omega
section
variable {k:Nat}
theorem jX (h1:∀w v,Φ p w v->v = .int .u64 ((prK k:Nat):Int)) (hx:Φ x=Nu ((prK (k+1):Nat):Int)) (hpm:prm (prK (k+1))=true) (hk:k+1<256:=by omega):aj Φ prog ⟨95,[.fact p],[oK x],false⟩:=by
 have hb:=ie hk
 have e:prK (k+1)=gy (prK k) (prK k-2):=sb k
 have hl:=(kI (k:=k) (by omega)).2
 rw [e] at hb hpm
 obtain ⟨m,em,hm,hj⟩:=Fb (by omega) hpm
 rw [em] at hpm hb
 refine aW (Vk (p:=prK k) (m:=m) hj hpm) ⟨h1,trivial⟩ ⟨⟨rfl,⟨rfl,rfl,fun _ _ h=>?_⟩,trivial⟩,trivial⟩
 rw [hx,e,em]
 exact h
end
end Go.Proofs.YtomamliepbhegaaGreat.Sym
