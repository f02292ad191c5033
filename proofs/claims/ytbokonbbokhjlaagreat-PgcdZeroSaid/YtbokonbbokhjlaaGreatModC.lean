/- Operations on numbers of 64 bits without sign, as quiet sites. Rows of numbers: read, written, made, as sites. Powers modulo a prime, Miller and Rabin's test, the prime before one: the program's own. -/
import Derived.Test.YtbokonbbokhjlaaGreatSymS
import Derived.Test.YtbokonbbokhjlaaGreatDivT
import Derived.Test.YtbokonbbokhjlaaGreatSymR
import Derived.Test.YtbokonbbokhjlaaGreatGauC
set_option maxRecDepth 100000
namespace Go.Proofs.YtbokonbbokhjlaaGreat.Sym
open Go.RowKit
def AO:BinOp->BinOp->Bool
 | .lss,.lss=>true | .leq,.leq=>true | .gtr,.gtr=>true | .geq,.geq=>true | .eql,.eql=>true | .neq,.neq=>true | .add,.add=>true | .sub,.sub=>true | .mul,.mul=>true
 | .quo,.quo=>true | .rem,.rem=>true | .shl,.shl=>true | .shr,.shr=>true | .or,.or=>true | .and,.and=>true | _,_=>false
theorem MD {x y:BinOp} (h:AO x y=true):x=y:=by cases x <;> cases y <;> first | rfl | cases h
def aA (op:BinOp):Op->Option (List Operand)
 | .binOp o _ x y _=>if AO o op then some [x,y] else none
 | _=>none
theorem qI {op:BinOp}{o:Op}{xs:List Operand} (h:aA op o=some xs):∃t y z yt,o = .binOp op t y z yt∧xs = [y,z]:=by
 unfold aA at h
 split at h
 case h_2=>cases h
 rename_i o' t y z yt
 split at h
 case isFalse=>cases h
 rename_i hc
 simp only [Option.some.injEq] at h
 exact ⟨t,y,z,yt,by rw [MD hc],h.symm⟩
section
variable {P:Program}{Φ:PH}{p q x:Nat}
theorem qJ {op:BinOp}{o:Oper}{t yt:TypeId}{y z:Operand}{ac:Act}{w:World}{k kb:IntKind}{a b:Int}{r:Value} (ho:o.op = .binOp op t y z yt) (h1:ac.eval y = .int k a) (h2:ac.eval z = .int kb b) (h:(binOp op t (.int k a) (.int kb b)).run P w = .ok r w):(execOp ac.eval o).run P w = .ok (.value r) w:=by
 unfold execOp
 simp only [ho,h1,h2,Sem.run_bind]
 have hg:(eqGuard op t y z (.int k a) (.int kb b)).run P w = .ok () w:=by
  unfold eqGuard
  cases op <;> simp
 simp [hg,h]
theorem bk {op:BinOp}{k kb:IntKind}{a b c:Int} (hp:∀w v,Φ p w v->v = .int k a) (hq:∀w v,Φ q w v->v = .int kb b) (h:∀t w,(binOp op t (.int k a) (.int kb b)).run P w = .ok (.int k c) w) (hx:Φ x=fun _ v=>v = .int k c):ai Φ P ⟨0,[.fact p,.fact q],[oK x],.quiet (aA op)⟩:=fun X w ac o xs _ hm ha=>by
 obtain ⟨t,y,z,yt,ho,rfl⟩:=qI hm
 refine ⟨.int k c,w,qJ ho (hp _ _ (ha.1 w (Off.refl _ _))) (hq _ _ (ha.2.1 w (Off.refl _ _))) (h t w),ba w none,⟨⟨⟨⟨_,_,rfl⟩,fun _ h=>by cases h⟩,fun r hr w1 hw=>?_⟩,trivial⟩⟩
 simp only [List.mem_singleton] at hr;subst hr
 show Φ x w1 _;rw [hx];rfl
theorem cm {op:BinOp}{k kb:IntKind}{a b c:Int} (hp:∀w v,Φ p w v->v = .int k a) (h:∀t w,(binOp op t (.int k a) (.int kb b)).run P w = .ok (.int k c) w) (hx:Φ x=fun _ v=>v = .int k c):ai Φ P ⟨0,[.fact p,.lit (.ci kb b)],[oK x],.quiet (aA op)⟩:=fun X w ac o xs _ hm ha=>by
 obtain ⟨t,y,z,yt,ho,rfl⟩:=qI hm
 refine ⟨.int k c,w,qJ ho (hp _ _ (ha.1 w (Off.refl _ _))) ha.2.1 (h t w),ba w none,⟨⟨⟨⟨_,_,rfl⟩,fun _ h=>by cases h⟩,fun r hr w1 hw=>?_⟩,trivial⟩⟩
 simp only [List.mem_singleton] at hr;subst hr
 show Φ x w1 _;rw [hx];rfl
theorem jH {op:BinOp}{k kb:IntKind}{a b:Int}{r:Bool} (hp:∀w v,Φ p w v->v = .int k a) (hq:∀w v,Φ q w v->v = .int kb b) (h:∀t w,(binOp op t (.int k a) (.int kb b)).run P w = .ok (.bool r) w):ai Φ P ⟨0,[.fact p,.fact q],[oL (.cb r)],.quiet (aA op)⟩:=fun X w ac o xs _ hm ha=>by
 obtain ⟨t,y,z,yt,ho,rfl⟩:=qI hm
 exact ⟨.bool r,w,qJ ho (hp _ _ (ha.1 w (Off.refl _ _))) (hq _ _ (ha.2.1 w (Off.refl _ _))) (h t w),ba w none,⟨⟨⟨rfl,fun _ h=>by cases h⟩,fun r hr=>by cases hr⟩,trivial⟩⟩
theorem cY {op:BinOp}{k kb:IntKind}{a b:Int}{r:Bool} (hp:∀w v,Φ p w v->v = .int k a) (h:∀t w,(binOp op t (.int k a) (.int kb b)).run P w = .ok (.bool r) w):ai Φ P ⟨0,[.fact p,.lit (.ci kb b)],[oL (.cb r)],.quiet (aA op)⟩:=fun X w ac o xs _ hm ha=>by
 obtain ⟨t,y,z,yt,ho,rfl⟩:=qI hm
 exact ⟨.bool r,w,qJ ho (hp _ _ (ha.1 w (Off.refl _ _))) ha.2.1 (h t w),ba w none,⟨⟨⟨rfl,fun _ h=>by cases h⟩,fun r hr=>by cases hr⟩,trivial⟩⟩
end
section
variable {P:Program}{a b c:Nat}
theorem wrap64 (h:c<18446744073709551616):IntKind.u64.wrap (c:Int)=c:=by
 simp only [IntKind.wrap,IntKind.bits,IntKind.signed]
 simp
 omega
theorem run_add64 (h:a+b=c) (hc:c<18446744073709551616) (t:TypeId) (w:World):(binOp .add t (.int .u64 (a:Int)) (.int .u64 (b:Int))).run P w = .ok (.int .u64 (c:Int)) w:=by
 subst h
 simp [binOp,Op.intArith,<- Int.natCast_add,wrap64 hc]
theorem run_sub64 (h:a-b=c) (hb:b<=a) (hc:a<18446744073709551616) (t:TypeId) (w:World):(binOp .sub t (.int .u64 (a:Int)) (.int .u64 (b:Int))).run P w = .ok (.int .u64 (c:Int)) w:=by
 subst h
 simp [binOp,Op.intArith,<- Int.ofNat_sub hb,wrap64 (show a-b<18446744073709551616 by omega)]
theorem mB (h:a*b=c) (hc:c<18446744073709551616) (t:TypeId) (w:World):(binOp .mul t (.int .u64 (a:Int)) (.int .u64 (b:Int))).run P w = .ok (.int .u64 (c:Int)) w:=by
 subst h
 simp [binOp,Op.intArith,<- Int.natCast_mul,wrap64 hc]
theorem i9 (h:a % b=c) (hb:0<b) (t:TypeId) (w:World):(binOp .rem t (.int .u64 (a:Int)) (.int .u64 (b:Int))).run P w = .ok (.int .u64 (c:Int)) w:=by
 subst h
 have e:((a:Int).tmod (b:Int))=((a % b:Nat):Int):=by rw [Int.tmod_eq_emod_of_nonneg (by omega)];exact (Int.natCast_emod a b).symm
 simp only [binOp]
 rw [if_neg (by simp)]
 unfold Op.intDiv
 simp only []
 rw [if_neg (by omega),e];rfl
theorem ME (h:a / b=c) (hb:0<b) (ha:a<18446744073709551616) (t:TypeId) (w:World):(binOp .quo t (.int .u64 (a:Int)) (.int .u64 (b:Int))).run P w = .ok (.int .u64 (c:Int)) w:=by
 subst h
 have e:((a:Int).tdiv (b:Int))=((a / b:Nat):Int):=by rw [Int.tdiv_eq_ediv_of_nonneg (by omega)];exact (Int.natCast_ediv a b).symm
 have hl:=Nat.div_le_self a b
 simp only [binOp]
 rw [if_neg (by simp)]
 unfold Op.intDiv
 simp only []
 rw [if_neg (by omega),e,wrap64 (by omega)];rfl
theorem ug {kb:IntKind} (h:a*4294967296=c) (ha:a<4294967296) (t:TypeId) (w:World):(binOp .shl t (.int .u64 (a:Int)) (.int kb 32)).run P w = .ok (.int .u64 (c:Int)) w:=by
 subst h
 have e:IntKind.u64.wrap ((a:Int)*2 ^ (min (32:Int).toNat IntKind.u64.bits))=((a*4294967296:Nat):Int):=by
  rw [show (2:Int) ^ (min (32:Int).toNat IntKind.u64.bits)=((4294967296:Nat):Int) from rfl,<- Int.natCast_mul]
  exact wrap64 (by omega)
 simp only [binOp,Op.shift]
 rw [if_neg (by omega),e];rfl
theorem uh (h:a*4294967296+b=c) (ha:a<4294967296) (hb:b<4294967296) (t:TypeId) (w:World):(binOp .or t (.int .u64 ((a*4294967296:Nat):Int)) (.int .u64 (b:Int))).run P w = .ok (.int .u64 (c:Int)) w:=by
 subst h
 have e:(BitVec.ofInt IntKind.u64.bits ((a*4294967296:Nat):Int) ||| BitVec.ofInt IntKind.u64.bits (b:Int)).toNat=a*4294967296+b:=by
  rw [BitVec.toNat_or,BitVec.ofInt_natCast,BitVec.ofInt_natCast,BitVec.toNat_ofNat,BitVec.toNat_ofNat,Nat.mod_eq_of_lt (show a*4294967296<2 ^ IntKind.u64.bits by show _<18446744073709551616;omega),Nat.mod_eq_of_lt (show b<2 ^ IntKind.u64.bits by show _<18446744073709551616;omega)]
  have:=Nat.two_pow_add_eq_or_of_lt (i:=32) (b:=b) (by omega) a
  rw [show (2:Nat) ^ 32=4294967296 from rfl,Nat.mul_comm] at this
  exact this.symm
 simp only [binOp]
 rw [if_neg (by simp)]
 simp only [Op.intBits]
 rw [e,wrap64 (by omega)];rfl
theorem bT {op:BinOp}{k:IntKind}{x y:Int}{r:Bool} (h:(match op with | .lss=>decide (x<y) | .gtr=>decide (x > y) | .leq=>decide (x<=y) | .geq=>decide (x≥y) | .eql=>x == y | .neq=>x != y | _=>false)=r) (ho:op = .lss∨op = .gtr∨op = .leq∨op = .geq∨op = .eql∨op = .neq) (t:TypeId) (w:World):(binOp op t (.int k x) (.int k y)).run P w = .ok (.bool r) w:=by
 subst h
 rcases ho with rfl | rfl | rfl | rfl | rfl | rfl <;> simp [binOp,Op.intCmp]
end
def gz (a b:TypeId):Op->Option (List Operand)
 | .convert s d x=>if s=a∧d=b then some [x] else none
 | _=>none
section
variable {P:Program}{Φ:PH}{p x:Nat}
theorem AP {A B:TypeId}{o:Op}{xs:List Operand} (h:gz A B o=some xs):∃y,o = .convert A B y∧xs = [y]:=by
 unfold gz at h
 split at h
 case h_2=>cases h
 rename_i sA dB y
 split at h
 case isFalse=>cases h
 rename_i hc
 simp only [Option.some.injEq] at h
 exact ⟨y,by rw [hc.1,hc.2],h.symm⟩
theorem AQ {A B:TypeId}{k k':IntKind}{a:Int}{o:Oper}{y:Operand}{ac:Act}{w:World} (hA:(P.underlying A).isSome=true) (hB:P.underlying B=some (.int k')) (ho:o.op = .convert A B y) (hv:ac.eval y = .int k a) (h:k'.wrap a=a):(execOp ac.eval o).run P w = .ok (.value (.int k' a)) w:=by
 unfold execOp
 obtain ⟨d,hd⟩:=Option.isSome_iff_exists.mp hA
 have hr:(convert A B (.int k a)).run P w = .ok (.int k' a) w:=by
  simp [convert,run_underlying hd,run_underlying hB,Conv.intToInt,h]
 simp [ho,hv,hr]
theorem ui {A B:TypeId}{k k':IntKind}{a:Int} (hA:(P.underlying A).isSome=true) (hB:P.underlying B=some (.int k')) (hp:∀w v,Φ p w v->v = .int k a) (h:k'.wrap a=a) (hx:Φ x=fun _ v=>v = .int k' a):ai Φ P ⟨0,[.fact p],[oK x],.quiet (gz A B)⟩:=fun X w ac o xs _ hm ha=>by
 obtain ⟨y,ho,rfl⟩:=AP hm
 refine ⟨.int k' a,w,AQ hA hB ho (hp _ _ (ha.1 w (Off.refl _ _))) h,ba w none,⟨⟨⟨⟨_,_,rfl⟩,fun _ h=>by cases h⟩,fun r hr w1 hw=>?_⟩,trivial⟩⟩
 simp only [List.mem_singleton] at hr;subst hr
 show Φ x w1 _;rw [hx];rfl
theorem mC {A B:TypeId}{k:IntKind}{a:Int} (hA:(P.underlying A).isSome=true) (hB:P.underlying B=some (.int .i64)) (hp:∀w v,Φ p w v->v = .int k a) (h:IntKind.i64.wrap a=a) (hx:Φ x=Ni a):ai Φ P ⟨0,[.fact p],[oN x],.quiet (gz A B)⟩:=fun X w ac o xs _ hm ha=>by
 obtain ⟨y,ho,rfl⟩:=AP hm
 refine ⟨.int .i64 a,w,AQ hA hB ho (hp _ _ (ha.1 w (Off.refl _ _))) h,ba w none,⟨⟨⟨⟨_,rfl⟩,fun _ h=>by cases h⟩,fun r hr w1 hw=>?_⟩,trivial⟩⟩
 simp only [List.mem_singleton] at hr;subst hr
 show Φ x w1 _;rw [hx];rfl
end
section
variable {P:Program}{a b c:Int}
theorem lp (h:a+b=c) (ha:0<=a) (hb:0<=b) (hc:c<18446744073709551616) (t:TypeId) (w:World):(binOp .add t (.int .u64 a) (.int .u64 b)).run P w = .ok (.int .u64 c) w:=by
 obtain ⟨x,rfl⟩:=Int.eq_ofNat_of_zero_le ha
 obtain ⟨y,rfl⟩:=Int.eq_ofNat_of_zero_le hb
 rw [<- h]
 exact run_add64 (c:=x+y) rfl (by omega) t w
theorem eu (h:a-b=c) (hb:0<=b) (hab:b<=a) (hc:a<18446744073709551616) (t:TypeId) (w:World):(binOp .sub t (.int .u64 a) (.int .u64 b)).run P w = .ok (.int .u64 c) w:=by
 obtain ⟨x,rfl⟩:=Int.eq_ofNat_of_zero_le (show 0<=a by omega)
 obtain ⟨y,rfl⟩:=Int.eq_ofNat_of_zero_le hb
 rw [<- h,<- Int.ofNat_sub (by omega)]
 exact run_sub64 (c:=x-y) rfl (by omega) (by omega) t w
theorem jc (h:a*b=c) (ha:0<=a) (hb:0<=b) (hc:c<18446744073709551616) (t:TypeId) (w:World):(binOp .mul t (.int .u64 a) (.int .u64 b)).run P w = .ok (.int .u64 c) w:=by
 obtain ⟨x,rfl⟩:=Int.eq_ofNat_of_zero_le ha
 obtain ⟨y,rfl⟩:=Int.eq_ofNat_of_zero_le hb
 have e:((x*y:Nat):Int)=c:=by rw [Int.natCast_mul];exact h
 rw [<- e]
 exact mB (c:=x*y) rfl (by omega) t w
theorem d8 (h:a % b=c) (ha:0<=a) (hb:0<b) (t:TypeId) (w:World):(binOp .rem t (.int .u64 a) (.int .u64 b)).run P w = .ok (.int .u64 c) w:=by
 obtain ⟨x,rfl⟩:=Int.eq_ofNat_of_zero_le ha
 obtain ⟨y,rfl⟩:=Int.eq_ofNat_of_zero_le (show 0<=b by omega)
 rw [<- h,<- Int.natCast_emod]
 exact i9 (c:=x % y) rfl (by omega) t w
end
theorem ueF {P:Program}{Φ:PH}{p:Nat}{k:IntKind}{a b:Int} (hp:∀w v,Φ p w v->v = .int k a) (h:¬a=b:=by omega):ai Φ P ⟨0,[.fact p,.lit (.ci k b)],oF,.quiet (aA .eql)⟩:=cY (op:=.eql) hp (bT (op:=.eql) (beq_eq_false_iff_ne.2 h) (by simp))
theorem ugT {P:Program}{Φ:PH}{p:Nat}{k:IntKind}{a b:Int} (hp:∀w v,Φ p w v->v = .int k a) (h:a > b:=by omega):ai Φ P ⟨0,[.fact p,.lit (.ci k b)],oT,.quiet (aA .gtr)⟩:=cY (op:=.gtr) hp (bT (op:=.gtr) (decide_eq_true h) (by simp))
theorem mD {a b:Nat} (ha:a<2147483648) (hb:b<2147483648):a*b<4611686018427387904:=Nat.lt_of_lt_of_le (Nat.mul_lt_mul_of_lt_of_lt ha hb) (by decide)
theorem n5 {a b:Int} (ha:0<=a∧a<2147483648) (hb:0<=b∧b<2147483648):0<=a*b∧a*b<4611686018427387904:=by
 obtain ⟨x,rfl⟩:=Int.eq_ofNat_of_zero_le ha.1
 obtain ⟨y,rfl⟩:=Int.eq_ofNat_of_zero_le hb.1
 have:=mD (a:=x) (b:=y) (by omega) (by omega)
 rw [<- Int.natCast_mul]
 omega
theorem jd {P:Program}{a b c:Int} (h:a / b=c) (ha:0<=a) (hb:0<b) (ha2:a<18446744073709551616) (t:TypeId) (w:World):(binOp .quo t (.int .u64 a) (.int .u64 b)).run P w = .ok (.int .u64 c) w:=by
 obtain ⟨x,rfl⟩:=Int.eq_ofNat_of_zero_le ha
 obtain ⟨y,rfl⟩:=Int.eq_ofNat_of_zero_le (show 0<=b by omega)
 rw [<- h,<- Int.natCast_ediv]
 exact ME (c:=x / y) rfl (by omega) (by omega) t w
def au (k:IntKind) (Z:Nat->Int) (i:Nat) (_:World) (v:Value):Prop:=v = .agg #[.int k (Z i)]
section
variable {P:Program}{Φ:PH}{p q r x y n i j:Nat}{k:IntKind}{Z Z':Nat->Int}
theorem cA (k:IntKind) (z:Int):(bm.one .nk).is (.int k z):=⟨⟨_,_,rfl⟩,fun _ h=>by cases h⟩
theorem gA {T:TypeId}{z:Int} (hT:gQ P T=some false) (hp:∀w v,Φ p w v->Ptr 1 (fun _ v=>v = .agg #[.int k z]) w v) (hx:Φ x=fun _ v=>v = .int k z):ai Φ P ⟨0,[.fact p],[oK x],.quiet (aM T)⟩:=fun X w ac o xs _ hm ha=>by
 unfold aM at hm
 split at hm
 case h_2=>cases hm
 rename_i t y ho
 split at hm
 case isFalse=>cases hm
 rename_i ht
 subst ht
 simp only [Option.some.injEq] at hm
 subst hm
 obtain ⟨b,off,hv,l,h1,h2,h3⟩:=hp _ _ (ha.1 w (Off.refl _ _))
 obtain rfl:l = [.int k z]:=by simpa using h3
 have hc:=h2 0 _ rfl
 refine ⟨.int k z,w,?_,ba w none,cJ (cA k z) hx fun _ _=>rfl⟩
 rw [Nat.add_zero] at hc
 unfold execOp
 simp [ho,hv,Instr.loadAt,Instr.sureAddr,loadVar,gR hT,hc]
theorem n6 {T:TypeId}{J:List Nat}{z:Int} (hT:gQ P T=some false) (hp:∀w v,Φ p w v->Ptr 1 (fun _ v=>v = .agg #[.int k z]) w v) (hx:Φ x=fun _ v=>v = .int k z):ai Φ P ⟨0,[.fact p],[oK x],.dd J (aM T)⟩:=fun X w ac o xs _ hm ha=>by
 unfold aM at hm
 split at hm
 case h_2=>cases hm
 rename_i t y ho
 split at hm
 case isFalse=>cases hm
 rename_i ht
 subst ht
 simp only [Option.some.injEq] at hm
 subst hm
 obtain ⟨b,off,hv,l,h1,h2,h3⟩:=hp _ _ (ha.1 w (Off.refl _ _))
 obtain rfl:l = [.int k z]:=by simpa using h3
 have hc:=h2 0 _ rfl
 refine ⟨.int k z,w,?_,ba w none,fun Y=>cJ (cA k z) hx fun _ _=>rfl⟩
 rw [Nat.add_zero] at hc
 unfold execOp
 simp [ho,hv,Instr.loadAt,Instr.sureAddr,loadVar,gR hT,hc]
theorem uj {t e:TypeId}{c:Int} (xS xI:Operand) (hz:dJ P t=some 1) (hp:∀w v,Φ p w v->ah 1 e (au .u64 Z) n w v) (hq:∀w v,Φ q w v->v = .int .i64 (i:Int)) (hi:i<n) (hr:∀w v,Φ r w v->v = .int .u64 c) (hy:Φ y=At 1)
  (hF':∀k,k≠i->Z k=Z' k) (hG':c=Z' i) (hx:Φ x=ah 1 e (au .u64 Z') n) :
  ai Φ P ⟨0,[.fact p,.fact q,.any,.fact r],[oS x],.put [] j 0 y (dV t xS xI)⟩:=fun X L w ac o xs hX hL hLX hm ha hjt hb=>by
 unfold dV at hm
 split at hm
 case h_2=>cases hm
 rename_i t' a b ho
 split at hm
 case isFalse=>cases hm
 rename_i ht
 subst ht
 simp only [Option.some.injEq] at hm
 subst hm
 obtain ⟨rows,r1,r2,r3,r4⟩:=hp _ _ (ha.1 w (Off.refl _ _))
 have hi2:=hq _ _ (ha.2.1 w (Off.refl _ _))
 have hval:=hr _ _ (ha.2.2.2.1 w (Off.refl _ _))
 have hAt:=hjt w (Off.refl _ _)
 rw [hy] at hAt
 obtain ⟨g,off,n1,c1,k,hAt⟩:=hAt
 simp only [List.dropLast_cons_cons,List.dropLast_singleton,List.map_cons,List.map_nil,Value.agg.injEq,Array.mk.injEq,List.cons.injEq,and_true] at hAt
 obtain ⟨h1,h2,h3⟩:=hAt
 have hk:k=i:=by
  rw [hi2] at h2
  injection h2 with _ h2
  omega
 subst hk
 rw [h1] at r3
 have hoff:off=0∧n1=n:=by
  rcases r3.1.2 with ⟨h',_⟩ | ⟨g',cap',cur',h',_⟩
  ·simp at h'
  ·simp only [Value.slice.injEq,Option.some.injEq,Addr.mk.injEq,and_true] at h'
   exact ⟨h'.1.2,h'.2.1⟩
 obtain ⟨rfl,rfl⟩:=hoff
 rw [Nat.zero_add] at h3
 have hcell:∀m,m < [Value.int .u64 c].length->(w.cell? ⟨g,k*1+m,none⟩).isSome=true:=fun m hm=>by
  simp at hm
  subst hm
  rw [r3.1.cellAt _ (by omega),List.getElem?_eq_getElem (by rw [r3.1.1];omega)];rfl
 have hrun:=run_storeCells_cells (P:=P) g (k*1) [Value.int .u64 c] 0 w (fun m hm=>by rw [Nat.add_zero];exact hcell m hm) (fun m _=>r3.1.frozenAt _) (fun v hv=>by rw [List.mem_singleton.1 hv];rfl)
 rw [Nat.add_zero] at hrun
 have hst:=dU.storeCells [Value.int .u64 c] (k*1) rows.flatten w r3 (fun v hv=>by
  rw [List.mem_singleton.1 hv]
  intro k' m hk' e
  injection e with e
  exact hk' e.symm)
 have hgr:w.grownBy (w.setCells g (k*1) [Value.int .u64 c]) (some g):=je g _ _ _
 have hkp:Kp w (w.setCells g (k*1) [Value.int .u64 c]):=r3.kp hgr
 have hLg:L g:=hb xS g rfl (by rw [h1];rfl)
 refine ⟨w.setCells g (k*1) [Value.int .u64 c],some g,?_,hgr,fun m hm=>Option.some.inj hm▸hLg,hkp,fun m q v hm h4 h5=>?_,fun x0 hx0=>?_⟩
 ·have e0:Instr.sureAddr (.pointer (some ⟨g,k*1,none⟩))=pure ⟨g,k*1,none⟩:=rfl
  unfold execOp
  simp only [ho,h3,hval]
  simp only [Instr.storeAt,e0,storeVar,Value.cells,Sem.run_bind,Sem.run_pure,Result.andThen_ok,run_sizeOf hz]
  have hrun':=hrun
  simp only [Nat.mul_one] at hrun'
  simp [hrun']
 ·have hbk:=hgr.block m (World.block_lt_of_cell? _ _ h4) (fun e'=>hm m e'.symm rfl)
  refine ⟨by rw [World.cell?_of_block hbk];exact h4,?_⟩
  simp only [World.frozen?,hbk] at h5 ⊢
  exact h5
 ·simp only [List.dropLast_cons_cons,List.getElem?_cons_zero,Option.some.injEq] at hx0
  subst hx0
  rw [h1]
  refine ⟨⟨⟨⟨_,_,_,rfl⟩,fun _ h=>by cases h⟩,fun s hs w1 hw=>?_⟩,trivial⟩
  simp only [List.mem_singleton] at hs
  subst hs
  show Φ x w1 _
  rw [hx]
  refine ⟨rows.set k [Value.int .u64 c],by simp [r1],fun r' hr'=>?_,?_,fun m r' hr'=>?_⟩
  ·rcases List.mem_or_eq_of_mem_set hr' with h | h
   ·exact r2 r' h
   ·rw [h];rfl
  ·rw [AR r2 rfl (by omega)]
   refine hst.keep fun m hm'=>hw.2 m (hst.lt m hm') fun hx'=>?_
   simp only [Value.ownBlock,Option.some.injEq] at hm'
   subst hm'
   exact hLX _ hLg hx'
  ·rw [List.getElem?_set] at hr'
   split at hr'
   ·rename_i e'
    subst e'
    split at hr'
    ·simp only [Option.some.injEq] at hr'
     subst hr'
     show Value.agg #[.int .u64 c] = .agg #[.int .u64 (Z' _)]
     rw [hG']
    ·cases hr'
   ·rename_i e'
    have:=r4 m r' hr'
    show Value.agg r'.toArray = .agg #[.int .u64 (Z' m)]
    rw [<- hF' m fun h=>e' h.symm]
    exact this
end
theorem MF:(Tryz.prog.info? 103).map (fun i=>(i.zero,i.size,i.bytes))=some (some (.int .u64 0),1,8):=by kernel_rfl
section
variable {Φ:PH}{p x n j:Nat}{Z:Nat->Int}
theorem MG (hp:∀w v,Φ p w v->v = .int .i64 (n:Int)) (hn:n<=1000000) (hF:∀i,Z i=0) (hx:Φ x=ah 1 103 (au .u64 Z) n):ai Φ Tryz.prog ⟨0,[.fact p,.fact p],[oS x],.loose [] j 0 (fp 126)⟩:=by
 obtain ⟨i0,hi,hz0,hz1,hz2⟩:=info_parts MF
 refine AS Tryz.underlying126 hi hz0 hz1 hz2 rfl (by omega) (by omega) (fun u hu=>?_) hp hn (fun k w=>?_) hx
 ·have hu':u ∈ [Value.int .u64 0]:=hu
  rw [List.mem_singleton.1 hu']
  intro k m hk e
  injection e with e
  exact hk e.symm
 ·show Value.agg #[.int .u64 0] = .agg #[.int .u64 (Z k)]
  rw [hF k]
theorem uk {a:Int} (h0:0<=a) (h1:a<4294967296):IntKind.u64.wrap a=a:=by
 obtain ⟨b,rfl⟩:=Int.eq_ofNat_of_zero_le h0
 exact wrap64 (by omega)
theorem MH {w:World}{v:Value}{xs:List Nat} (h:Sl w .u32 v xs):Rw 1 (au .u32 (fun i=>((xs.getD i 0:Nat):Int))) xs.length w v:=by
 obtain ⟨s,cap,rfl,h1,h2,h3⟩:=h
 refine ⟨s,cap,rfl,h1,fun i hi=>?_⟩
 rcases h3 with h3 | ⟨b,off,rfl,h4,h5⟩
 ·subst h3
  exact absurd hi (Nat.not_lt_zero _)
 ·refine ⟨b,off,rfl,[.int .u32 ((xs.getD i 0:Nat):Int)],rfl,fun j u hj=>?_,rfl⟩
  cases j with
  | zero=>
   simp only [List.getElem?_cons_zero,Option.some.injEq] at hj
   subst hj
   rw [Nat.mul_one,Nat.add_zero]
   exact h5 i hi
  | succ j=>simp at hj
end
def lu (T:TypeId):Op->Option (List Operand)
 | .build t parts=>match parts.toList with
  | [(0,.const (.int .u64 2)),(1,.const (.int .u64 3)),(2,.const (.int .u64 5)),(3,.const (.int .u64 7))]=>if t=T then some [] else none
  | _=>none
 | _=>none
theorem n7 {Φ:PH}:ai Φ Tryz.prog ⟨0,[],[⟨.agg [.lit (.ci .u64 2),.lit (.ci .u64 3),.lit (.ci .u64 5),.lit (.ci .u64 7)],[]⟩],.quiet (lu 161)⟩:=fun X w ac o xs _ hm ha=>by
 unfold lu at hm
 split at hm
 case h_2=>cases hm
 rename_i t parts ho
 split at hm
 case h_2=>cases hm
 rename_i hp
 split at hm
 case isFalse=>cases hm
 rename_i ht
 subst ht
 have hp':parts = #[(0,.const (.int .u64 2)),(1,.const (.int .u64 3)),(2,.const (.int .u64 5)),(3,.const (.int .u64 7))]:=by apply Array.ext';exact hp
 subst hp'
 refine ⟨.agg #[.int .u64 2,.int .u64 3,.int .u64 5,.int .u64 7],w,?_,ba w none,⟨⟨⟨[.int .u64 2,.int .u64 3,.int .u64 5,.int .u64 7],rfl,rfl,rfl,rfl,rfl,trivial⟩,fun _ h=>(by cases h)⟩,trivial⟩⟩
 unfold execOp
 have hb:(Instr.build 161 #[(0,.int .u64 2),(1,.int .u64 3),(2,.int .u64 5),(3,.int .u64 7)]).run Tryz.prog w = .ok (.agg #[.int .u64 2,.int .u64 3,.int .u64 5,.int .u64 7]) w:=run_build w _ _ _ (by kernel_rfl)
 have hb':(Instr.build 161 #[(0,ac.eval (.const (.int .u64 2))),(1,ac.eval (.const (.int .u64 3))),(2,ac.eval (.const (.int .u64 5))),(3,ac.eval (.const (.int .u64 7)))]).run Tryz.prog w = .ok (.agg #[.int .u64 2,.int .u64 3,.int .u64 5,.int .u64 7]) w:=hb
 simp [ho,hb']
def fy (T:TypeId):Op->Option (List Operand)
 | .index t x y=>if t=T then some [x,y] else none
 | _=>none
theorem fY {Φ:PH}{a0 a1 a2 a3 c:Atom} (i:Nat) (hi:([a0,a1,a2,a3]:List Atom)[i]?=some c):ai Φ Tryz.prog ⟨0,[.parts (.agg [.lit a0,.lit a1,.lit a2,.lit a3]) [],.lit (.ci .i64 (i:Int))],[⟨.one (.lit c),[]⟩],.quiet (fy 161)⟩:=fun X w ac o xs _ hm ha=>by
 unfold fy at hm
 split at hm
 case h_2=>cases hm
 rename_i t y z ho
 split at hm
 case isFalse=>cases hm
 rename_i ht
 subst ht
 simp only [Option.some.injEq] at hm
 subst hm
 obtain ⟨⟨⟨vs,hv,hall⟩,_⟩,h2,_⟩:=ha
 have hi2:ac.eval z = .int .i64 (i:Int):=h2
 match vs,hall with
 | [v0,v1,v2,v3],⟨e0,e1,e2,e3,_⟩=>
  have n8:v0=a0.ev aH:=e0
  have e1':v1=a1.ev aH:=e1
  have e2':v2=a2.ev aH:=e2
  have e3':v3=a3.ev aH:=e3
  subst n8 e1' e2' e3'
  have hlt:i<4:=(List.getElem?_eq_some_iff.1 hi).1
  have hg:([a0.ev aH,a1.ev aH,a2.ev aH,a3.ev aH]:List Value)[i]?=some (c.ev aH):=by
   have:=congrArg (Option.map (Atom.ev aH)) hi
   rw [<- List.getElem?_map] at this
   exact this
  refine ⟨c.ev aH,w,?_,ba w none,⟨⟨⟨rfl,fun l h=>by cases c <;> cases h⟩,fun _ h=>by cases h⟩,trivial⟩⟩
  unfold execOp
  have hv':ac.eval y = .agg #[a0.ev aH,a1.ev aH,a2.ev aH,a3.ev aH]:=hv
  have MI:(Go.part 103 #[a0.ev aH,a1.ev aH,a2.ev aH,a3.ev aH] i).run Tryz.prog w = .ok (c.ev aH) w:=by
   have hb:gQ Tryz.prog 103=some false:=by kernel_rfl
   simp [Go.part,gR hb,hg]
  have hs:dJ Tryz.prog 103=some 1:=by kernel_rfl
  simp only [ho,hv',hi2]
  have h0:(0:Int)<=(i:Int):=by omega
  have h4:(i:Int)<((4:Nat):Int):=by omega
  simp [Instr.index,asIntOf,run_underlying Tryz.underlying161,run_sizeOf hs,MI,hlt]
def ul (x e p:Nat):List WP:=[Nu ((x:Nat):Int),Nu ((e:Nat):Int),Nu ((p:Nat):Int),Nu ((pwX x p 0:Nat):Int),Nu ((x ^ e % p:Nat):Int)]
def MJ (x e p:Nat) (j:Nat):List WP:=[Nu ((pwX x p j:Nat):Int),Nu ((e / 2 ^ j:Nat):Int),Nu ((pwO x e p j:Nat):Int),Nu ((e / 2 ^ j % 2:Nat):Int),Nu ((pwO x e p j*pwX x p j:Nat):Int),Nu ((pwO x e p (j+1):Nat):Int),Nu ((pwX x p j*pwX x p j:Nat):Int),Nu ((pwX x p (j+1):Nat):Int),Nu ((e / 2 ^ (j+1):Nat):Int),Nu ((e / 2 ^ j % 2:Nat):Int),Nu ((pwX x p j*pwX x p j:Nat):Int),Nu ((pwX x p (j+1):Nat):Int),Nu ((e / 2 ^ (j+1):Nat):Int)]
def AT:bg:=⟨[2,6,8,9,10],[(.slot 0,.nk),(.slot 1,.nk),(.slot 7,.nk)],[(.one 0,5),(.one 1,6),(.one 2,7)],[.frm 3,.frm 1,.closed (.one (.ci .u64 1))],5,[(7,4)]⟩
def AU:List Step:=[bQ [.fact 6,.lit (.ci .u64 0)] oT (aA .gtr),
   bQ [.fact 6,.lit (.ci .u64 2)] [oK 8] (aA .rem),
   bQ [.fact 8,.lit (.ci .u64 1)] oT (aA .eql),
   bQ [.fact 7,.fact 5] [oK 9] (aA .mul),
   bQ [.fact 9,.fact 2] [oK 10] (aA .rem),
   bQ [.fact 5,.fact 5] [oK 11] (aA .mul),
   bQ [.fact 11,.fact 2] [oK 12] (aA .rem),
   bQ [.fact 6,.lit (.ci .u64 2)] [oK 13] (aA .quo)]
def AV:List Step:=[bQ [.fact 6,.lit (.ci .u64 0)] oT (aA .gtr),
   bQ [.fact 6,.lit (.ci .u64 2)] [oK 14] (aA .rem),
   bQ [.fact 14,.lit (.ci .u64 1)] oF (aA .eql),
   bQ [.fact 5,.fact 5] [oK 15] (aA .mul),
   bQ [.fact 15,.fact 2] [oK 16] (aA .rem),
   bQ [.fact 6,.lit (.ci .u64 2)] [oK 17] (aA .quo)]
def MK:List Step:=[bQ [.fact 6,.lit (.ci .u64 0)] oF (aA .gtr)]
def ML:List Step:=[bQ [.fact 0,.fact 2] [oK 3] (aA .rem),
   .loop AT [(AU,[.frm 12,.frm 13,.frm 10]),(AV,[.frm 16,.frm 17,.frm 7])] MK]
def MM:List Out:=[oK 0,oK 1,oK 2]
theorem MN {x e p:Nat} (hp:1<p) (eJ:p<2147483648) (he:e<18446744073709551616) (_hx:x<18446744073709551616):ai (ph (ul x e p)) Tryz.prog ⟨151,[.fact 0,.fact 1,.fact 2],[oK 4],false⟩:=by
 have hp0:0<p:=by omega
 exact aV MM [oK 4] ML Tryz.func151 (by kernel_rfl)
  (lB (bk (op:=.rem) ad ad (i9 rfl hp0) rfl)
   (bz (counted (bits e) (fun j=>ph (ul x e p ++ MJ x e p j)) (fun j=>if e / 2 ^ j % 2=1 then 0 else 1) (fun j p hp=>bB (show p<(ul x e p).length from hp)) ⟨ad,fun _ _ h=>h.trans (congrArg (fun (n:Nat)=>Value.int .u64 (n:Int)) (by rw [Nat.pow_zero,Nat.div_one])),fun _=>rfl,trivial⟩ (fun j hj=>by
   skip
   by_cases hcj:e / 2 ^ j % 2=1
   ·skip
    exact ⟨(AU,[.frm 12,.frm 13,.frm 10]),by rw [if_pos hcj];rfl,⟨ad,ad,ad,trivial⟩,(lB (cY (op:=.gtr) ad (bT (decide_eq_true (by have:=ym hj;generalize e / 2 ^ j=q at *;omega)) (by simp)))
   (lB (cm (op:=.rem) ad (d8 rfl (Int.natCast_nonneg _) (by decide)) rfl)
   (lB (cY (op:=.eql) ad (bT (beq_iff_eq.2 (by omega)) (by simp)))
   (lB (bk (op:=.mul) ad ad (mB rfl (by have h1:=sH (x:=x) hp0 j;have h2:=nF (x:=x) (e:=e) hp j;have h3:=mD (a:=pwO x e p j) (b:=pwX x p j) (by omega) (by omega);omega)) rfl)
   (lB (bk (op:=.rem) ad ad (i9 (by rw [pwO,if_pos hcj]) hp0) rfl)
   (lB (bk (op:=.mul) ad ad (mB rfl (by have h1:=sH (x:=x) hp0 j;have h2:=nF (x:=x) (e:=e) hp j;have h3:=mD (a:=pwX x p j) (b:=pwX x p j) (by omega) (by omega);omega)) rfl)
   (lB (bk (op:=.rem) ad ad (i9 rfl hp0) rfl)
   (lB (cm (op:=.quo) ad (jd (by rw [Nat.pow_succ,<- Nat.div_div_eq_div_mul];rfl) (Int.natCast_nonneg _) (by decide) (by have:=Nat.div_le_self e (2 ^ j);generalize e / 2 ^ j=q at *;omega)) rfl)
   aw))))))))⟩
   ·skip
    exact ⟨(AV,[.frm 16,.frm 17,.frm 7]),by rw [if_neg hcj];rfl,⟨ad,ad,fun _ _ h=>h.trans (congrArg (fun (n:Nat)=>Value.int .u64 (n:Int)) (by rw [pwO,if_neg hcj])),trivial⟩,(lB (cY (op:=.gtr) ad (bT (decide_eq_true (by have:=ym hj;generalize e / 2 ^ j=q at *;omega)) (by simp)))
   (lB (cm (op:=.rem) ad (d8 rfl (Int.natCast_nonneg _) (by decide)) rfl)
   (lB (ueF ad)
   (lB (bk (op:=.mul) ad ad (mB rfl (by have h1:=sH (x:=x) hp0 j;have h2:=nF (x:=x) (e:=e) hp j;have h3:=mD (a:=pwX x p j) (b:=pwX x p j) (by omega) (by omega);omega)) rfl)
   (lB (bk (op:=.rem) ad ad (i9 rfl hp0) rfl)
   (lB (cm (op:=.quo) ad (jd (by rw [Nat.pow_succ,<- Nat.div_div_eq_div_mul];rfl) (Int.natCast_nonneg _) (by decide) (by have:=Nat.div_le_self e (2 ^ j);generalize e / 2 ^ j=q at *;omega)) rfl)
   aw))))))⟩)
   (lB (cY (op:=.gtr) ad (bT (decide_eq_false (by rw [yk e];decide)) (by simp)))
   aw)
   (fun q hq w v h=>by
    simp only [AT,List.mem_cons,List.not_mem_nil,or_false] at hq
    rcases hq with rfl
    ·exact (fun h=>h.trans (congrArg (fun (n:Nat)=>Value.int .u64 (n:Int)) (IG hp (yk e)))) h)) aw))
  (aL [.fact 0 (.one (.nk)),.fact 1 (.one (.nk)),.fact 2 (.one (.nk))] ⟨fun _ _ h=>h▸cA _ _,fun _ _ h=>h▸cA _ _,fun _ _ h=>h▸cA _ _,trivial⟩) (fun _ _ _ h=>h)
section
variable {Φ:PH}{p q r y x e P:Nat}
theorem qK (h1:∀w v,Φ p w v->v = .int .u64 ((x:Nat):Int)) (h2:∀w v,Φ q w v->v = .int .u64 ((e:Nat):Int)) (h3:∀w v,Φ r w v->v = .int .u64 ((P:Nat):Int)) (hy:Φ y=Nu ((x ^ e % P:Nat):Int)) (hp:1<P) (eJ:P<2147483648) (he:e<18446744073709551616) (hx:x<18446744073709551616):ai Φ Tryz.prog ⟨151,[.fact p,.fact q,.fact r],[oK y],false⟩:=
 aW (MN hp eJ he hx) ⟨h1,h2,h3,trivial⟩ ⟨⟨rfl,⟨rfl,rfl,fun _ _ h=>hy▸h⟩,trivial⟩,trivial⟩
end
def MO (x p:Nat):List WP:=[Nu ((x:Nat):Int),Nu ((p:Nat):Int),Nu ((p-2:Nat):Int),Nu ((x ^ (p-2) % p:Nat):Int)]
def MP:List Step:=[bQ [.fact 1,.lit (.ci .u64 2)] [oK 2] (aA .sub),
   .base ⟨151,[.fact 0,.fact 2,.fact 1],[oK 3],false⟩]
def MQ:List Out:=[oK 0,oK 1]
theorem MR {x p:Nat} (hp:1<p) (eJ:p<2147483648) (hx:x<18446744073709551616):ai (ph (MO x p)) Tryz.prog ⟨136,[.fact 0,.fact 1],[oK 3],false⟩:=by
 skip
 exact aV MQ [oK 3] MP Tryz.func136 (by kernel_rfl)
  (lB (cm (op:=.sub) ad (eu (by omega) (by omega) (by omega) (by omega)) rfl)
   (lB (qK (x:=x) (e:=(p-2)) (P:=p) ad ad ad rfl (by omega) (by omega) (by omega) (by omega))
   aw))
  (aL [.fact 0 (.one (.nk)),.fact 1 (.one (.nk))] ⟨fun _ _ h=>h▸cA _ _,fun _ _ h=>h▸cA _ _,trivial⟩) (fun _ _ _ h=>h)
section
variable {Φ:PH}{p q y P:Nat}{a:Int}
theorem n9 (h1:∀w v,Φ p w v->v = .int .u64 a) (h2:∀w v,Φ q w v->v = .int .u64 ((P:Nat):Int)) (hy:Φ y=Nu (bL P a)) (h0:0<=a) (ha:a<18446744073709551616) (hp:1<P) (eJ:P<2147483648):ai Φ Tryz.prog ⟨136,[.fact p,.fact q],[oK y],false⟩:=by
 obtain ⟨x,rfl⟩:=Int.eq_ofNat_of_zero_le h0
 exact aW (MR hp eJ (by omega)) ⟨h1,h2,trivial⟩ ⟨⟨rfl,⟨rfl,rfl,fun _ _ h=>hy▸h⟩,trivial⟩,trivial⟩
end
def um (n b d:Nat):List WP:=[Nu ((n:Nat):Int),Nu ((b:Nat):Int),Nu ((n-1:Nat):Int),Nu (((n-1) / 2:Nat):Int),Nu ((d:Nat):Int),Nu ((b ^ d % n:Nat):Int)]
def MS (n m:Nat) (j:Nat):List WP:=[Nu (((n-1) / 2 / 2 ^ j:Nat):Int),Nu (((n-1) / 2 / 2 ^ j % 2:Nat):Int),Nu (((n-1) / 2 / 2 ^ (j+1):Nat):Int),Nu (((n-1) / 2 / 2 ^ m % 2:Nat):Int)]
def AW:bg:=⟨[0,1,4,7,8,9],[(.slot 5,.nk)],[(.one 0,6)],[.frm 3],6,[(6,4)]⟩
def AX:List Step:=[bQ [.fact 6,.lit (.ci .u64 2)] [oK 7] (aA .rem),
   bQ [.fact 7,.lit (.ci .u64 0)] oT (aA .eql),
   bQ [.fact 6,.lit (.ci .u64 2)] [oK 8] (aA .quo)]
def MT:List Step:=[bQ [.fact 6,.lit (.ci .u64 2)] [oK 9] (aA .rem),
   bQ [.fact 9,.lit (.ci .u64 0)] oF (aA .eql)]
def MU:List Step:=[bQ [.fact 0,.lit (.ci .u64 1)] [oK 2] (aA .sub),
   bQ [.fact 2,.lit (.ci .u64 2)] [oK 3] (aA .quo),
   .loop AW [(AX,[.frm 8])] MT,
   .base ⟨151,[.fact 1,.fact 4,.fact 0],[oK 5],false⟩,
   bQ [.fact 5,.lit (.ci .u64 1)] oT (aA .eql)]
def MV:List Out:=[oK 0,oK 1]
theorem MW {n b m d x:Nat} (hn:3<=n) (dk:n<2147483648) (hb:b<18446744073709551616) (hm0:∀j,j<m->(n-1) / 2 / 2 ^ j % 2=0) (hm1:(n-1) / 2 / 2 ^ m % 2=1) (hd:(n-1) / 2 / 2 ^ m=d) (hdl:d<2147483648) (hx:b ^ d % n=x) (hx1:x=1):ai (ph (um n b d)) Tryz.prog ⟨150,[.fact 0,.fact 1],oT,false⟩:=by
 skip
 exact aV MV oT MU Tryz.func150 (by kernel_rfl)
  (lB (cm (op:=.sub) ad (eu (by omega) (by omega) (by omega) (by omega)) rfl)
   (lB (cm (op:=.quo) ad (jd rfl (by omega) (by omega) (by omega)) rfl)
   (bz (counted m (fun j=>ph (um n b d ++ MS n m j)) (fun _=>0) (fun j p hp=>bB (show p<(um n b d).length from hp)) ⟨fun _ _ h=>h.trans (congrArg (fun (n:Nat)=>Value.int .u64 (n:Int)) (by rw [Nat.pow_zero,Nat.div_one])),trivial⟩ (fun j hj=>by
   skip
   exact ⟨(AX,[.frm 8]),rfl,⟨ad,trivial⟩,(lB (cm (op:=.rem) ad (d8 rfl (Int.natCast_nonneg _) (by decide)) rfl)
   (lB (cY (op:=.eql) ad (bT (beq_iff_eq.2 (by have:=hm0 j hj;omega)) (by simp)))
   (lB (cm (op:=.quo) ad (jd (by rw [Nat.pow_succ,<- Nat.div_div_eq_div_mul];rfl) (Int.natCast_nonneg _) (by decide) (by have:=Nat.div_le_self ((n-1) / 2) (2 ^ j);generalize (n-1) / 2 / 2 ^ j=q at *;omega)) rfl)
   aw)))⟩)
   (lB (cm (op:=.rem) ad (d8 rfl (Int.natCast_nonneg _) (by decide)) rfl)
   (lB (ueF ad)
   aw))
   (fun q hq w v h=>by
    simp only [AW,List.mem_cons,List.not_mem_nil,or_false] at hq
    rcases hq with rfl
    ·exact (fun h=>h.trans (congrArg (fun (n:Nat)=>Value.int .u64 (n:Int)) hd)) h)) (lB (qK (x:=b) (e:=d) (P:=n) ad ad ad rfl (by omega) (by omega) (by omega) (by omega))
   (lB (cY (op:=.eql) ad (bT (beq_iff_eq.2 (by omega)) (by simp)))
   aw)))))
  (aL [.fact 0 (.one (.nk)),.fact 1 (.one (.nk))] ⟨fun _ _ h=>h▸cA _ _,fun _ _ h=>h▸cA _ _,trivial⟩) (fun _ _ _ h=>h)
def oc (n b d:Nat):List WP:=[Nu ((n:Nat):Int),Nu ((b:Nat):Int),Nu ((n-1:Nat):Int),Nu (((n-1) / 2:Nat):Int),Nu ((d:Nat):Int),Nu ((b ^ d % n:Nat):Int)]
def MZ (n d x:Nat) (i:Nat):List WP:=[Nu ((d*2 ^ i:Nat):Int),Nu ((sqX x n i:Nat):Int),Nu ((n-1:Nat):Int),Nu ((n-1:Nat):Int),Nu ((sqX x n i*sqX x n i:Nat):Int),Nu ((sqX x n (i+1):Nat):Int),Nu ((d*2 ^ (i+1):Nat):Int),Nu ((n-1:Nat):Int),Nu ((n-1:Nat):Int)]
def M3:bg:=⟨[0,1,4,7,8,9,10,11,12,15,16,17,18,19,20],[(.slot 5,.nk),(.slot 6,.nk)],[(.one 0,6),(.one 1,7)],[.frm 4,.frm 5],6,[]⟩
def AY:List Step:=[bQ [.fact 0,.lit (.ci .u64 1)] [oK 8] (aA .sub),
   bQ [.fact 6,.fact 8] oT (aA .lss),
   bQ [.fact 0,.lit (.ci .u64 1)] [oK 9] (aA .sub),
   bQ [.fact 7,.fact 9] oF (aA .eql),
   bQ [.fact 7,.fact 7] [oK 10] (aA .mul),
   bQ [.fact 10,.fact 0] [oK 11] (aA .rem),
   bQ [.fact 6,.lit (.ci .u64 2)] [oK 12] (aA .mul)]
def M5:List Step:=[bQ [.fact 0,.lit (.ci .u64 1)] [oK 13] (aA .sub),
   bQ [.fact 6,.fact 13] oT (aA .lss),
   bQ [.fact 0,.lit (.ci .u64 1)] [oK 14] (aA .sub),
   bQ [.fact 7,.fact 14] oT (aA .eql)]
def M6 (n m j:Nat) (_j:Nat):List WP:=[Nu (((n-1) / 2 / 2 ^ j:Nat):Int),Nu (((n-1) / 2 / 2 ^ j % 2:Nat):Int),Nu (((n-1) / 2 / 2 ^ (j+1):Nat):Int),Nu (((n-1) / 2 / 2 ^ m % 2:Nat):Int)]
def A0:bg:=⟨[0,1,4,7,8,9],[(.slot 5,.nk)],[(.one 0,6)],[.frm 3],6,[(6,4)]⟩
def A2:List Step:=[bQ [.fact 6,.lit (.ci .u64 2)] [oK 7] (aA .rem),
   bQ [.fact 7,.lit (.ci .u64 0)] oT (aA .eql),
   bQ [.fact 6,.lit (.ci .u64 2)] [oK 8] (aA .quo)]
def M7:List Step:=[bQ [.fact 6,.lit (.ci .u64 2)] [oK 9] (aA .rem),
   bQ [.fact 9,.lit (.ci .u64 0)] oF (aA .eql)]
def M8:List Step:=[bQ [.fact 0,.lit (.ci .u64 1)] [oK 2] (aA .sub),
   bQ [.fact 2,.lit (.ci .u64 2)] [oK 3] (aA .quo),
   .loop A0 [(A2,[.frm 8])] M7,
   .base ⟨151,[.fact 1,.fact 4,.fact 0],[oK 5],false⟩,
   bQ [.fact 5,.lit (.ci .u64 1)] oF (aA .eql),
   .loop M3 [(AY,[.frm 12,.frm 11])] M5]
def M9:List Out:=[oK 0,oK 1]
theorem ZL {n b m d x j:Nat} (hn:3<=n) (dk:n<2147483648) (hb:b<18446744073709551616) (hm0:∀j,j<m->(n-1) / 2 / 2 ^ j % 2=0) (hm1:(n-1) / 2 / 2 ^ m % 2=1) (hd:(n-1) / 2 / 2 ^ m=d) (hdl:d<2147483648) (hx:b ^ d % n=x) (hx1:x≠1) (hs:∀i,sqX x n i<2147483648) (hk:∀k,k<j->d*2 ^ k<n-1∧sqX x n k≠n-1) (h1:d*2 ^ j<n-1) (h2:sqX x n j=n-1):ai (ph (oc n b d)) Tryz.prog ⟨150,[.fact 0,.fact 1],oT,false⟩:=by
 skip
 exact aV M9 oT M8 Tryz.func150 (by kernel_rfl)
  (lB (cm (op:=.sub) ad (eu (by omega) (by omega) (by omega) (by omega)) rfl)
   (lB (cm (op:=.quo) ad (jd rfl (by omega) (by omega) (by omega)) rfl)
   (bz (counted m (fun j=>ph (oc n b d ++ M6 n m j j)) (fun _=>0) (fun j p hp=>bB (show p<(oc n b d).length from hp)) ⟨fun _ _ h=>h.trans (congrArg (fun (n:Nat)=>Value.int .u64 (n:Int)) (by rw [Nat.pow_zero,Nat.div_one])),trivial⟩ (fun j hj=>by
   skip
   exact ⟨(A2,[.frm 8]),rfl,⟨ad,trivial⟩,(lB (cm (op:=.rem) ad (d8 rfl (Int.natCast_nonneg _) (by decide)) rfl)
   (lB (cY (op:=.eql) ad (bT (beq_iff_eq.2 (by have:=hm0 j hj;omega)) (by simp)))
   (lB (cm (op:=.quo) ad (jd (by rw [Nat.pow_succ,<- Nat.div_div_eq_div_mul];rfl) (Int.natCast_nonneg _) (by decide) (by have:=Nat.div_le_self ((n-1) / 2) (2 ^ j);generalize (n-1) / 2 / 2 ^ j=q at *;omega)) rfl)
   aw)))⟩)
   (lB (cm (op:=.rem) ad (d8 rfl (Int.natCast_nonneg _) (by decide)) rfl)
   (lB (ueF ad)
   aw))
   (fun q hq w v h=>by
    simp only [A0,List.mem_cons,List.not_mem_nil,or_false] at hq
    rcases hq with rfl
    ·exact (fun h=>h.trans (congrArg (fun (n:Nat)=>Value.int .u64 (n:Int)) hd)) h)) (lB (qK (x:=b) (e:=d) (P:=n) ad ad ad rfl (by omega) (by omega) (by omega) (by omega))
   (lB (ueF ad)
   (bz (counted j (fun i=>ph (oc n b d ++ MZ n d x i)) (fun _=>0) (fun i p hp=>bB (show p<(oc n b d).length from hp)) ⟨fun _ _ h=>h.trans (congrArg (fun (n:Nat)=>Value.int .u64 (n:Int)) (by rw [Nat.pow_zero,Nat.mul_one])),fun _ _ h=>h.trans (congrArg (fun (n:Nat)=>Value.int .u64 (n:Int)) hx),trivial⟩ (fun i hi=>by
   skip
   exact ⟨(AY,[.frm 12,.frm 11]),rfl,⟨ad,ad,trivial⟩,(lB (cm (op:=.sub) ad (eu (by omega) (by omega) (by omega) (by omega)) rfl)
   (lB (jH (op:=.lss) ad ad (bT (decide_eq_true (by have:=(hk i hi).1;omega)) (by simp)))
   (lB (cm (op:=.sub) ad (eu (by omega) (by omega) (by omega) (by omega)) rfl)
   (lB (jH (op:=.eql) ad ad (bT (beq_eq_false_iff_ne.2 (by have:=(hk i hi).2;omega)) (by simp)))
   (lB (bk (op:=.mul) ad ad (mB rfl (by have h1:=hs i;have:=mD h1 h1;omega)) rfl)
   (lB (bk (op:=.rem) ad ad (i9 rfl (by omega)) rfl)
   (lB (cm (op:=.mul) ad (jc (by rw [Nat.pow_succ,<- Nat.mul_assoc];rfl) (Int.natCast_nonneg _) (by decide) (by have:=(hk i (by omega)).1;rw [Nat.pow_succ,<- Nat.mul_assoc];omega)) rfl)
   aw)))))))⟩)
   (lB (cm (op:=.sub) ad (eu (by omega) (by omega) (by omega) (by omega)) rfl)
   (lB (jH (op:=.lss) ad ad (bT (decide_eq_true (by omega)) (by simp)))
   (lB (cm (op:=.sub) ad (eu (by omega) (by omega) (by omega) (by omega)) rfl)
   (lB (jH (op:=.eql) ad ad (bT (beq_iff_eq.2 (by omega)) (by simp)))
   aw))))
   (fun q hq=>by cases hq)) aw))))))
  (aL [.fact 0 (.one (.nk)),.fact 1 (.one (.nk))] ⟨fun _ _ h=>h▸cA _ _,fun _ _ h=>h▸cA _ _,trivial⟩) (fun _ _ _ h=>h)
def od (n b d:Nat):List WP:=[Nu ((n:Nat):Int),Nu ((b:Nat):Int),Nu ((n-1:Nat):Int),Nu (((n-1) / 2:Nat):Int),Nu ((d:Nat):Int),Nu ((b ^ d % n:Nat):Int)]
def ZM (n d x:Nat) (i:Nat):List WP:=[Nu ((d*2 ^ i:Nat):Int),Nu ((sqX x n i:Nat):Int),Nu ((n-1:Nat):Int),Nu ((n-1:Nat):Int),Nu ((sqX x n i*sqX x n i:Nat):Int),Nu ((sqX x n (i+1):Nat):Int),Nu ((d*2 ^ (i+1):Nat):Int),Nu ((n-1:Nat):Int)]
def ZN:bg:=⟨[0,1,4,7,8,9,10,11,12,15,16,17,18,19,20],[(.slot 5,.nk),(.slot 6,.nk)],[(.one 0,6),(.one 1,7)],[.frm 4,.frm 5],6,[]⟩
def A3:List Step:=[bQ [.fact 0,.lit (.ci .u64 1)] [oK 8] (aA .sub),
   bQ [.fact 6,.fact 8] oT (aA .lss),
   bQ [.fact 0,.lit (.ci .u64 1)] [oK 9] (aA .sub),
   bQ [.fact 7,.fact 9] oF (aA .eql),
   bQ [.fact 7,.fact 7] [oK 10] (aA .mul),
   bQ [.fact 10,.fact 0] [oK 11] (aA .rem),
   bQ [.fact 6,.lit (.ci .u64 2)] [oK 12] (aA .mul)]
def Nd:List Step:=[bQ [.fact 0,.lit (.ci .u64 1)] [oK 13] (aA .sub),
   bQ [.fact 6,.fact 13] oF (aA .lss)]
def Ng (n m j:Nat) (_j:Nat):List WP:=[Nu (((n-1) / 2 / 2 ^ j:Nat):Int),Nu (((n-1) / 2 / 2 ^ j % 2:Nat):Int),Nu (((n-1) / 2 / 2 ^ (j+1):Nat):Int),Nu (((n-1) / 2 / 2 ^ m % 2:Nat):Int)]
def A5:bg:=⟨[0,1,4,7,8,9],[(.slot 5,.nk)],[(.one 0,6)],[.frm 3],6,[(6,4)]⟩
def A6:List Step:=[bQ [.fact 6,.lit (.ci .u64 2)] [oK 7] (aA .rem),
   bQ [.fact 7,.lit (.ci .u64 0)] oT (aA .eql),
   bQ [.fact 6,.lit (.ci .u64 2)] [oK 8] (aA .quo)]
def Nh:List Step:=[bQ [.fact 6,.lit (.ci .u64 2)] [oK 9] (aA .rem),
   bQ [.fact 9,.lit (.ci .u64 0)] oF (aA .eql)]
def Nj:List Step:=[bQ [.fact 0,.lit (.ci .u64 1)] [oK 2] (aA .sub),
   bQ [.fact 2,.lit (.ci .u64 2)] [oK 3] (aA .quo),
   .loop A5 [(A6,[.frm 8])] Nh,
   .base ⟨151,[.fact 1,.fact 4,.fact 0],[oK 5],false⟩,
   bQ [.fact 5,.lit (.ci .u64 1)] oF (aA .eql),
   .loop ZN [(A3,[.frm 12,.frm 11])] Nd]
def Nk:List Out:=[oK 0,oK 1]
theorem Nl {n b m d x j:Nat} (hn:3<=n) (dk:n<2147483648) (hb:b<18446744073709551616) (hm0:∀j,j<m->(n-1) / 2 / 2 ^ j % 2=0) (hm1:(n-1) / 2 / 2 ^ m % 2=1) (hd:(n-1) / 2 / 2 ^ m=d) (hdl:d<2147483648) (hx:b ^ d % n=x) (hx1:x≠1) (hs:∀i,sqX x n i<2147483648) (hk:∀k,k<j->d*2 ^ k<n-1∧sqX x n k≠n-1) (h1:n-1<=d*2 ^ j):ai (ph (od n b d)) Tryz.prog ⟨150,[.fact 0,.fact 1],oF,false⟩:=by
 skip
 exact aV Nk oF Nj Tryz.func150 (by kernel_rfl)
  (lB (cm (op:=.sub) ad (eu (by omega) (by omega) (by omega) (by omega)) rfl)
   (lB (cm (op:=.quo) ad (jd rfl (by omega) (by omega) (by omega)) rfl)
   (bz (counted m (fun j=>ph (od n b d ++ Ng n m j j)) (fun _=>0) (fun j p hp=>bB (show p<(od n b d).length from hp)) ⟨fun _ _ h=>h.trans (congrArg (fun (n:Nat)=>Value.int .u64 (n:Int)) (by rw [Nat.pow_zero,Nat.div_one])),trivial⟩ (fun j hj=>by
   skip
   exact ⟨(A6,[.frm 8]),rfl,⟨ad,trivial⟩,(lB (cm (op:=.rem) ad (d8 rfl (Int.natCast_nonneg _) (by decide)) rfl)
   (lB (cY (op:=.eql) ad (bT (beq_iff_eq.2 (by have:=hm0 j hj;omega)) (by simp)))
   (lB (cm (op:=.quo) ad (jd (by rw [Nat.pow_succ,<- Nat.div_div_eq_div_mul];rfl) (Int.natCast_nonneg _) (by decide) (by have:=Nat.div_le_self ((n-1) / 2) (2 ^ j);generalize (n-1) / 2 / 2 ^ j=q at *;omega)) rfl)
   aw)))⟩)
   (lB (cm (op:=.rem) ad (d8 rfl (Int.natCast_nonneg _) (by decide)) rfl)
   (lB (ueF ad)
   aw))
   (fun q hq w v h=>by
    simp only [A5,List.mem_cons,List.not_mem_nil,or_false] at hq
    rcases hq with rfl
    ·exact (fun h=>h.trans (congrArg (fun (n:Nat)=>Value.int .u64 (n:Int)) hd)) h)) (lB (qK (x:=b) (e:=d) (P:=n) ad ad ad rfl (by omega) (by omega) (by omega) (by omega))
   (lB (ueF ad)
   (bz (counted j (fun i=>ph (od n b d ++ ZM n d x i)) (fun _=>0) (fun i p hp=>bB (show p<(od n b d).length from hp)) ⟨fun _ _ h=>h.trans (congrArg (fun (n:Nat)=>Value.int .u64 (n:Int)) (by rw [Nat.pow_zero,Nat.mul_one])),fun _ _ h=>h.trans (congrArg (fun (n:Nat)=>Value.int .u64 (n:Int)) hx),trivial⟩ (fun i hi=>by
   skip
   exact ⟨(A3,[.frm 12,.frm 11]),rfl,⟨ad,ad,trivial⟩,(lB (cm (op:=.sub) ad (eu (by omega) (by omega) (by omega) (by omega)) rfl)
   (lB (jH (op:=.lss) ad ad (bT (decide_eq_true (by have:=(hk i hi).1;omega)) (by simp)))
   (lB (cm (op:=.sub) ad (eu (by omega) (by omega) (by omega) (by omega)) rfl)
   (lB (jH (op:=.eql) ad ad (bT (beq_eq_false_iff_ne.2 (by have:=(hk i hi).2;omega)) (by simp)))
   (lB (bk (op:=.mul) ad ad (mB rfl (by have h1:=hs i;have:=mD h1 h1;omega)) rfl)
   (lB (bk (op:=.rem) ad ad (i9 rfl (by omega)) rfl)
   (lB (cm (op:=.mul) ad (jc (by rw [Nat.pow_succ,<- Nat.mul_assoc];rfl) (Int.natCast_nonneg _) (by decide) (by have:=(hk i (by omega)).1;rw [Nat.pow_succ,<- Nat.mul_assoc];omega)) rfl)
   aw)))))))⟩)
   (lB (cm (op:=.sub) ad (eu (by omega) (by omega) (by omega) (by omega)) rfl)
   (lB (jH (op:=.lss) ad ad (bT (decide_eq_false (by omega)) (by simp)))
   aw))
   (fun q hq=>by cases hq)) aw))))))
  (aL [.fact 0 (.one (.nk)),.fact 1 (.one (.nk))] ⟨fun _ _ h=>h▸cA _ _,fun _ _ h=>h▸cA _ _,trivial⟩) (fun _ _ _ h=>h)
theorem Nm:∀{d:Nat},0<d->d<2147483648->∃m,m<64∧(∀k,k<m->d / 2 ^ k % 2=0)∧d / 2 ^ m % 2=1:=fun {d} h0 h1=>by
 have:∀n,n<=32->(∃m,m<64∧(∀k,k<m->d / 2 ^ k % 2=0)∧d / 2 ^ m % 2=1)∨∀k,k<n->d / 2 ^ k % 2=0:=by
  intro n
  induction n with
  | zero=>exact fun _=>.inr fun k hk=>absurd hk (by omega)
  | succ n ih=>
   intro hn
   rcases ih (by omega) with h | h
   ·exact .inl h
   ·rcases Nat.mod_two_eq_zero_or_one (d / 2 ^ n) with e | e
    ·refine .inr fun k hk=>?_
     rcases Nat.lt_or_ge k n with h2 | h2
     ·exact h k h2
     ·rw [show k=n by omega];exact e
    ·exact .inl ⟨n,by omega,h,e⟩
 rcases this 32 (Nat.le_refl _) with h | h
 ·exact h
 ·have key:∀n,n<=32->2 ^ n∣d:=by
   intro n
   induction n with
   | zero=>exact fun _=>Nat.one_dvd _
   | succ n ih=>
    intro hn
    obtain ⟨c,hc⟩:=ih (by omega)
    have h2:=h n (by omega)
    rw [hc,Nat.mul_div_cancel_left _ (Nat.pow_pos (by omega))] at h2
    obtain ⟨c',hc'⟩:=Nat.dvd_of_mod_eq_zero h2
    exact ⟨c',by rw [hc,hc',Nat.pow_succ,Nat.mul_assoc]⟩
  have:=Nat.le_of_dvd h0 (key 32 (Nat.le_refl _))
  omega
theorem Nn {x n:Nat} (hx:x<n):∀i,sqX x n i<n
 | 0=>hx
 | _+1=>Nat.mod_lt _ (by omega)
theorem No {n x d:Nat} (hn:n<2147483648) (hd:0<d):∃j,j<64∧(∀k,k<j->d*2 ^ k<n-1∧sqX x n k≠n-1)∧(n-1<=d*2 ^ j∨(d*2 ^ j<n-1∧sqX x n j=n-1)):=by
 have:∀m,m<=32->(∃j,j<64∧(∀k,k<j->d*2 ^ k<n-1∧sqX x n k≠n-1)∧(n-1<=d*2 ^ j∨(d*2 ^ j<n-1∧sqX x n j=n-1)))∨∀k,k<m->d*2 ^ k<n-1∧sqX x n k≠n-1:=by
  intro m
  induction m with
  | zero=>exact fun _=>.inr fun k hk=>absurd hk (by omega)
  | succ m ih=>
   intro hm
   rcases ih (by omega) with h | h
   ·exact .inl h
   ·rcases Nat.lt_or_ge (d*2 ^ m) (n-1) with e | e
    ·by_cases e2:sqX x n m=n-1
     ·exact .inl ⟨m,by omega,h,.inr ⟨e,e2⟩⟩
     ·refine .inr fun k hk=>?_
      rcases Nat.lt_or_ge k m with h2 | h2
      ·exact h k h2
      ·rw [show k=m by omega];exact ⟨e,e2⟩
    ·exact .inl ⟨m,by omega,h,.inl e⟩
 rcases this 32 (Nat.le_refl _) with h | h
 ·exact h
 ·have h1:=(h 31 (by omega)).1
  have h2:1*2 ^ 31<=d*2 ^ 31:=Nat.mul_le_mul_right _ hd
  omega
section
variable {Φ:PH}{p n b:Nat}
theorem A7 (h1:∀w v,Φ p w v->v = .int .u64 ((n:Nat):Int)) (hn:3<=n) (dk:n<2147483648) (hb:b<18446744073709551616):ai Φ Tryz.prog ⟨150,[.fact p,.lit (.ci .u64 ((b:Nat):Int))],[⟨.one (.lit (.cb (psb n b))),[]⟩],false⟩:=by
 obtain ⟨m,hm,hm0,hm1⟩:=Nm (d:=(n-1) / 2) (by omega) (by omega)
 obtain ⟨d,hd⟩:∃d,(n-1) / 2 / 2 ^ m=d:=⟨_,rfl⟩
 have hdl:d<2147483648:=by
  have:=Nat.div_le_self ((n-1) / 2) (2 ^ m)
  omega
 have hd0:0<d:=by
  rw [<- hd]
  omega
 obtain ⟨x,hx⟩:∃x,b ^ d % n=x:=⟨_,rfl⟩
 have hxn:x<n:=by rw [<- hx];exact Nat.mod_lt _ (by omega)
 have hpw:psb n b=bif Nat.beq x 1 then true else mrl 64 n x d:=by
  unfold psb
  rw [yn (by omega) hm0 hm1,hd,IF (Nat.lt_trans hdl (by decide)) (by omega),hx]
 have hs:∀i,sqX x n i<2147483648:=fun i=>by have:=Nn hxn i;omega
 have am:fK Φ (ph [Nu ((n:Nat):Int),Nu ((b:Nat):Int)]) [.fact p,.lit (.ci .u64 ((b:Nat):Int))] [.fact 0,.fact 1]:=⟨h1,fun _=>rfl,trivial⟩
 by_cases hx1:x=1
 ·rw [hpw,hx1]
  exact aW (MW (m:=m) (d:=d) (x:=x) hn dk hb hm0 hm1 hd hdl hx hx1) ⟨h1,fun _=>rfl,trivial⟩ ⟨⟨rfl,trivial⟩,trivial⟩
 ·obtain ⟨j,hj,hk,h2⟩:=No (x:=x) dk hd0
  rw [hpw,k6 hx1,cond_false]
  rcases h2 with h2 | ⟨h2,h3⟩
  ·rw [yp hj hk h2]
   exact aW (Nl hn dk hb hm0 hm1 hd hdl hx hx1 hs hk h2) ⟨h1,fun _=>rfl,trivial⟩ ⟨⟨rfl,trivial⟩,trivial⟩
  ·rw [yo hj hk h2 h3]
   exact aW (ZL hn dk hb hm0 hm1 hd hdl hx hx1 hs hk h2 h3) ⟨h1,fun _=>rfl,trivial⟩ ⟨⟨rfl,trivial⟩,trivial⟩
theorem jf (h1:∀w v,Φ p w v->v = .int .u64 ((n:Nat):Int)) (hn:3<=n) (dk:n<2147483648) (hb:b<18446744073709551616) (h:psb n b=true):ai Φ Tryz.prog ⟨150,[.fact p,.lit (.ci .u64 ((b:Nat):Int))],[⟨.one (.lit (.cb true)),[]⟩],false⟩:=h▸A7 h1 hn dk hb
theorem qL (h1:∀w v,Φ p w v->v = .int .u64 ((n:Nat):Int)) (hn:3<=n) (dk:n<2147483648) (hb:b<18446744073709551616) (h:psb n b=false):ai Φ Tryz.prog ⟨150,[.fact p,.lit (.ci .u64 ((b:Nat):Int))],[⟨.one (.lit (.cb false)),[]⟩],false⟩:=h▸A7 h1 hn dk hb
end
def Np (n:Nat):List WP:=[Nu ((n:Nat):Int)]
def Ns:List Step:=[bQ [] [⟨.agg [.lit (.ci .u64 2),.lit (.ci .u64 3),.lit (.ci .u64 5),.lit (.ci .u64 7)],[]⟩] (lu 161),
   .rounds 1,
   bQ [.parts (.agg [.lit (.ci .u64 2),.lit (.ci .u64 3),.lit (.ci .u64 5),.lit (.ci .u64 7)]) [],.lit (.ci .i64 0)] [oL (.ci .u64 2)] (fy 161),
   bQ [.fact 0,.lit (.ci .u64 2)] oF (aA .eql),
   .base ⟨150,[.fact 0,.lit (.ci .u64 2)],oF,false⟩]
def Nt:List Out:=[oK 0]
theorem Nv {n:Nat} (hn:8<=n) (dk:n<2147483648)  (h2:psb n 2=false):ai (ph (Np n)) Tryz.prog ⟨135,[.fact 0],oF,false⟩:=by
 skip
 exact aV Nt oF Ns Tryz.func135 (by kernel_rfl)
  (lB (n7)
   (mE (lB (fY 0 rfl)
   (lB (ueF ad)
   (lB (qL (n:=n) (b:=2) ad (by omega) (by omega) (by decide) h2)
   aw)))))
  (aL [.fact 0 (.one (.nk))] ⟨fun _ _ h=>h▸cA _ _,trivial⟩) (fun _ _ _ h=>h)
def Nx (n:Nat):List WP:=[Nu ((n:Nat):Int)]
def Ny:List Step:=[bQ [] [⟨.agg [.lit (.ci .u64 2),.lit (.ci .u64 3),.lit (.ci .u64 5),.lit (.ci .u64 7)],[]⟩] (lu 161),
   .rounds 2,
   bQ [.parts (.agg [.lit (.ci .u64 2),.lit (.ci .u64 3),.lit (.ci .u64 5),.lit (.ci .u64 7)]) [],.lit (.ci .i64 0)] [oL (.ci .u64 2)] (fy 161),
   bQ [.fact 0,.lit (.ci .u64 2)] oF (aA .eql),
   .base ⟨150,[.fact 0,.lit (.ci .u64 2)],oT,false⟩,
   bQ [.parts (.agg [.lit (.ci .u64 2),.lit (.ci .u64 3),.lit (.ci .u64 5),.lit (.ci .u64 7)]) [],.lit (.ci .i64 1)] [oL (.ci .u64 3)] (fy 161),
   bQ [.fact 0,.lit (.ci .u64 3)] oF (aA .eql),
   .base ⟨150,[.fact 0,.lit (.ci .u64 3)],oF,false⟩]
def NA:List Out:=[oK 0]
theorem NB {n:Nat} (hn:8<=n) (dk:n<2147483648) (h2:psb n 2=true) (h3:psb n 3=false):ai (ph (Nx n)) Tryz.prog ⟨135,[.fact 0],oF,false⟩:=by
 skip
 exact aV NA oF Ny Tryz.func135 (by kernel_rfl)
  (lB (n7)
   (mE (lB (fY 0 rfl)
   (lB (ueF ad)
   (lB (jf (n:=n) (b:=2) ad (by omega) (by omega) (by decide) h2)
   (lB (fY 1 rfl)
   (lB (ueF ad)
   (lB (qL (n:=n) (b:=3) ad (by omega) (by omega) (by decide) h3)
   aw))))))))
  (aL [.fact 0 (.one (.nk))] ⟨fun _ _ h=>h▸cA _ _,trivial⟩) (fun _ _ _ h=>h)
def NC (n:Nat):List WP:=[Nu ((n:Nat):Int)]
def ND:List Step:=[bQ [] [⟨.agg [.lit (.ci .u64 2),.lit (.ci .u64 3),.lit (.ci .u64 5),.lit (.ci .u64 7)],[]⟩] (lu 161),
   .rounds 3,
   bQ [.parts (.agg [.lit (.ci .u64 2),.lit (.ci .u64 3),.lit (.ci .u64 5),.lit (.ci .u64 7)]) [],.lit (.ci .i64 0)] [oL (.ci .u64 2)] (fy 161),
   bQ [.fact 0,.lit (.ci .u64 2)] oF (aA .eql),
   .base ⟨150,[.fact 0,.lit (.ci .u64 2)],oT,false⟩,
   bQ [.parts (.agg [.lit (.ci .u64 2),.lit (.ci .u64 3),.lit (.ci .u64 5),.lit (.ci .u64 7)]) [],.lit (.ci .i64 1)] [oL (.ci .u64 3)] (fy 161),
   bQ [.fact 0,.lit (.ci .u64 3)] oF (aA .eql),
   .base ⟨150,[.fact 0,.lit (.ci .u64 3)],oT,false⟩,
   bQ [.parts (.agg [.lit (.ci .u64 2),.lit (.ci .u64 3),.lit (.ci .u64 5),.lit (.ci .u64 7)]) [],.lit (.ci .i64 2)] [oL (.ci .u64 5)] (fy 161),
   bQ [.fact 0,.lit (.ci .u64 5)] oF (aA .eql),
   .base ⟨150,[.fact 0,.lit (.ci .u64 5)],oF,false⟩]
def NE:List Out:=[oK 0]
theorem NG {n:Nat} (hn:8<=n) (dk:n<2147483648) (h2:psb n 2=true) (h3:psb n 3=true) (h5:psb n 5=false):ai (ph (NC n)) Tryz.prog ⟨135,[.fact 0],oF,false⟩:=by
 skip
 exact aV NE oF ND Tryz.func135 (by kernel_rfl)
  (lB (n7)
   (mE (lB (fY 0 rfl)
   (lB (ueF ad)
   (lB (jf (n:=n) (b:=2) ad (by omega) (by omega) (by decide) h2)
   (lB (fY 1 rfl)
   (lB (ueF ad)
   (lB (jf (n:=n) (b:=3) ad (by omega) (by omega) (by decide) h3)
   (lB (fY 2 rfl)
   (lB (ueF ad)
   (lB (qL (n:=n) (b:=5) ad (by omega) (by omega) (by decide) h5)
   aw)))))))))))
  (aL [.fact 0 (.one (.nk))] ⟨fun _ _ h=>h▸cA _ _,trivial⟩) (fun _ _ _ h=>h)
def NH (n:Nat):List WP:=[Nu ((n:Nat):Int)]
def NI:List Step:=[bQ [] [⟨.agg [.lit (.ci .u64 2),.lit (.ci .u64 3),.lit (.ci .u64 5),.lit (.ci .u64 7)],[]⟩] (lu 161),
   .rounds 4,
   bQ [.parts (.agg [.lit (.ci .u64 2),.lit (.ci .u64 3),.lit (.ci .u64 5),.lit (.ci .u64 7)]) [],.lit (.ci .i64 0)] [oL (.ci .u64 2)] (fy 161),
   bQ [.fact 0,.lit (.ci .u64 2)] oF (aA .eql),
   .base ⟨150,[.fact 0,.lit (.ci .u64 2)],oT,false⟩,
   bQ [.parts (.agg [.lit (.ci .u64 2),.lit (.ci .u64 3),.lit (.ci .u64 5),.lit (.ci .u64 7)]) [],.lit (.ci .i64 1)] [oL (.ci .u64 3)] (fy 161),
   bQ [.fact 0,.lit (.ci .u64 3)] oF (aA .eql),
   .base ⟨150,[.fact 0,.lit (.ci .u64 3)],oT,false⟩,
   bQ [.parts (.agg [.lit (.ci .u64 2),.lit (.ci .u64 3),.lit (.ci .u64 5),.lit (.ci .u64 7)]) [],.lit (.ci .i64 2)] [oL (.ci .u64 5)] (fy 161),
   bQ [.fact 0,.lit (.ci .u64 5)] oF (aA .eql),
   .base ⟨150,[.fact 0,.lit (.ci .u64 5)],oT,false⟩,
   bQ [.parts (.agg [.lit (.ci .u64 2),.lit (.ci .u64 3),.lit (.ci .u64 5),.lit (.ci .u64 7)]) [],.lit (.ci .i64 3)] [oL (.ci .u64 7)] (fy 161),
   bQ [.fact 0,.lit (.ci .u64 7)] oF (aA .eql),
   .base ⟨150,[.fact 0,.lit (.ci .u64 7)],oF,false⟩]
def NJ:List Out:=[oK 0]
theorem NK {n:Nat} (hn:8<=n) (dk:n<2147483648) (h2:psb n 2=true) (h3:psb n 3=true) (h5:psb n 5=true) (h7:psb n 7=false):ai (ph (NH n)) Tryz.prog ⟨135,[.fact 0],oF,false⟩:=by
 skip
 exact aV NJ oF NI Tryz.func135 (by kernel_rfl)
  (lB (n7)
   (mE (lB (fY 0 rfl)
   (lB (ueF ad)
   (lB (jf (n:=n) (b:=2) ad (by omega) (by omega) (by decide) h2)
   (lB (fY 1 rfl)
   (lB (ueF ad)
   (lB (jf (n:=n) (b:=3) ad (by omega) (by omega) (by decide) h3)
   (lB (fY 2 rfl)
   (lB (ueF ad)
   (lB (jf (n:=n) (b:=5) ad (by omega) (by omega) (by decide) h5)
   (lB (fY 3 rfl)
   (lB (ueF ad)
   (lB (qL (n:=n) (b:=7) ad (by omega) (by omega) (by decide) h7)
   aw))))))))))))))
  (aL [.fact 0 (.one (.nk))] ⟨fun _ _ h=>h▸cA _ _,trivial⟩) (fun _ _ _ h=>h)
def NM (n:Nat):List WP:=[Nu ((n:Nat):Int)]
def NN:List Step:=[bQ [] [⟨.agg [.lit (.ci .u64 2),.lit (.ci .u64 3),.lit (.ci .u64 5),.lit (.ci .u64 7)],[]⟩] (lu 161),
   .rounds 5,
   bQ [.parts (.agg [.lit (.ci .u64 2),.lit (.ci .u64 3),.lit (.ci .u64 5),.lit (.ci .u64 7)]) [],.lit (.ci .i64 0)] [oL (.ci .u64 2)] (fy 161),
   bQ [.fact 0,.lit (.ci .u64 2)] oF (aA .eql),
   .base ⟨150,[.fact 0,.lit (.ci .u64 2)],oT,false⟩,
   bQ [.parts (.agg [.lit (.ci .u64 2),.lit (.ci .u64 3),.lit (.ci .u64 5),.lit (.ci .u64 7)]) [],.lit (.ci .i64 1)] [oL (.ci .u64 3)] (fy 161),
   bQ [.fact 0,.lit (.ci .u64 3)] oF (aA .eql),
   .base ⟨150,[.fact 0,.lit (.ci .u64 3)],oT,false⟩,
   bQ [.parts (.agg [.lit (.ci .u64 2),.lit (.ci .u64 3),.lit (.ci .u64 5),.lit (.ci .u64 7)]) [],.lit (.ci .i64 2)] [oL (.ci .u64 5)] (fy 161),
   bQ [.fact 0,.lit (.ci .u64 5)] oF (aA .eql),
   .base ⟨150,[.fact 0,.lit (.ci .u64 5)],oT,false⟩,
   bQ [.parts (.agg [.lit (.ci .u64 2),.lit (.ci .u64 3),.lit (.ci .u64 5),.lit (.ci .u64 7)]) [],.lit (.ci .i64 3)] [oL (.ci .u64 7)] (fy 161),
   bQ [.fact 0,.lit (.ci .u64 7)] oF (aA .eql),
   .base ⟨150,[.fact 0,.lit (.ci .u64 7)],oT,false⟩]
def NO:List Out:=[oK 0]
theorem NP {n:Nat} (hn:8<=n) (dk:n<2147483648) (h2:psb n 2=true) (h3:psb n 3=true) (h5:psb n 5=true) (h7:psb n 7=true):ai (ph (NM n)) Tryz.prog ⟨135,[.fact 0],oT,false⟩:=by
 skip
 exact aV NO oT NN Tryz.func135 (by kernel_rfl)
  (lB (n7)
   (mE (lB (fY 0 rfl)
   (lB (ueF ad)
   (lB (jf (n:=n) (b:=2) ad (by omega) (by omega) (by decide) h2)
   (lB (fY 1 rfl)
   (lB (ueF ad)
   (lB (jf (n:=n) (b:=3) ad (by omega) (by omega) (by decide) h3)
   (lB (fY 2 rfl)
   (lB (ueF ad)
   (lB (jf (n:=n) (b:=5) ad (by omega) (by omega) (by decide) h5)
   (lB (fY 3 rfl)
   (lB (ueF ad)
   (lB (jf (n:=n) (b:=7) ad (by omega) (by omega) (by decide) h7)
   aw))))))))))))))
  (aL [.fact 0 (.one (.nk))] ⟨fun _ _ h=>h▸cA _ _,trivial⟩) (fun _ _ _ h=>h)
section
variable {Φ:PH}{p x n k P:Nat}
theorem A8 (h1:∀w v,Φ p w v->v = .int .u64 ((n:Nat):Int)) (hn:8<=n) (dk:n<2147483648):ai Φ Tryz.prog ⟨135,[.fact p],[⟨.one (.lit (.cb (prm n))),[]⟩],false⟩:=by
 unfold prm
 rw [k6 (show n≠2 by omega),k6 (show n≠3 by omega),k6 (show n≠5 by omega),k6 (show n≠7 by omega)]
 simp only [cond_false]
 cases h2:psb n 2
 ·exact aW (Nv hn dk h2) ⟨h1,trivial⟩ ⟨⟨rfl,trivial⟩,trivial⟩
 cases h3:psb n 3
 ·exact aW (NB hn dk h2 h3) ⟨h1,trivial⟩ ⟨⟨rfl,trivial⟩,trivial⟩
 cases h5:psb n 5
 ·exact aW (NG hn dk h2 h3 h5) ⟨h1,trivial⟩ ⟨⟨rfl,trivial⟩,trivial⟩
 cases h7:psb n 7
 ·exact aW (NK hn dk h2 h3 h5 h7) ⟨h1,trivial⟩ ⟨⟨rfl,trivial⟩,trivial⟩
 ·exact aW (NP hn dk h2 h3 h5 h7) ⟨h1,trivial⟩ ⟨⟨rfl,trivial⟩,trivial⟩
theorem NQ (h1:∀w v,Φ p w v->v = .int .u64 ((n:Nat):Int)) (hn:8<=n) (dk:n<2147483648) (h:prm n=true):ai Φ Tryz.prog ⟨135,[.fact p],[⟨.one (.lit (.cb true)),[]⟩],false⟩:=h▸A8 h1 hn dk
theorem NR (h1:∀w v,Φ p w v->v = .int .u64 ((n:Nat):Int)) (hn:8<=n) (dk:n<2147483648) (h:prm n=false):ai Φ Tryz.prog ⟨135,[.fact p],[⟨.one (.lit (.cb false)),[]⟩],false⟩:=h▸A8 h1 hn dk
end
def uo (p m:Nat):List WP:=[Nu ((p:Nat):Int),Nu ((p-2:Nat):Int),Nu ((p-2-2*m:Nat):Int)]
def NS (p:Nat) (j:Nat):List WP:=[Nu ((p-2-2*j:Nat):Int),Nu ((p-2-2*(j+1):Nat):Int)]
def A9:bg:=⟨[2,3,4],[(.slot 0,.nk)],[(.one 0,3)],[.frm 1],3,[(3,2)]⟩
def Ba:List Step:=[bQ [.fact 3,.lit (.ci .u64 1)] oT (aA .gtr),
   .base ⟨135,[.fact 3],oF,false⟩,
   bQ [.fact 3,.lit (.ci .u64 2)] [oK 4] (aA .sub)]
def NT:List Step:=[bQ [.fact 3,.lit (.ci .u64 1)] oT (aA .gtr),
   .base ⟨135,[.fact 3],oT,false⟩]
def NU:List Step:=[bQ [.fact 0,.lit (.ci .u64 2)] [oK 1] (aA .sub),
   .loop A9 [(Ba,[.frm 4])] NT]
def NV:List Out:=[oK 0]
theorem NW {p m:Nat} (hp:p<2147483648) (hm:10+2*m<=p) (hm0:∀j,j<m->prm (p-2-2*j)=false) (hm1:prm (p-2-2*m)=true):ai (ph (uo p m)) Tryz.prog ⟨114,[.fact 0],[oK 2],false⟩:=by
 skip
 exact aV NV [oK 2] NU Tryz.func114 (by kernel_rfl)
  (lB (cm (op:=.sub) ad (eu (by omega) (by omega) (by omega) (by omega)) rfl)
   (bz (counted m (fun j=>ph (uo p m ++ NS p j)) (fun _=>0) (fun j p hp=>bB (show p<(uo p m).length from hp)) ⟨ad,trivial⟩ (fun j hj=>by
   skip
   exact ⟨(Ba,[.frm 4]),rfl,⟨ad,trivial⟩,(lB (ugT ad)
   (lB (NR (n:=(p-2-2*j)) ad (by omega) (by omega) (hm0 j hj))
   (lB (cm (op:=.sub) ad (eu (by omega) (by omega) (by omega) (by omega)) rfl)
   aw)))⟩)
   (lB (ugT ad)
   (lB (NQ (n:=(p-2-2*m)) ad (by omega) (by omega) hm1)
   aw))
   (fun q hq w v h=>by
    simp only [A9,List.mem_cons,List.not_mem_nil,or_false] at hq
    rcases hq with rfl
    ·exact (fun h=>h) h)) aw))
  (aL [.fact 0 (.one (.nk))] ⟨fun _ _ h=>h▸cA _ _,trivial⟩) (fun _ _ _ h=>h)
theorem Bb:∀{f n:Nat},10<=fE f n->prm (fE f n)=true->∃m,fE f n=n-2*m∧2*m<=n∧∀j,j<m->prm (n-2*j)=false
 | 0,n,_,_=>⟨0,rfl,by omega,fun j hj=>absurd hj (by omega)⟩
 | f+1,n,h,hp=>by
  unfold fE at h hp ⊢
  cases h1:Nat.ble n 1
  ·rw [h1,cond_false] at h hp
   rw [cond_false]
   cases h2:prm n
   ·rw [h2,cond_false] at h hp
    rw [cond_false]
    obtain ⟨m,e,hm,hj⟩:=Bb h hp
    refine ⟨m+1,by rw [e];omega,by omega,fun j hj'=>?_⟩
    cases j with
    | zero=>exact h2
    | succ j=>
     have:=hj j (by omega)
     rwa [show n-2-2*j=n-2*(j+1) by omega] at this
   ·rw [cond_true]
    exact ⟨0,rfl,by omega,fun j hj=>absurd hj (by omega)⟩
  ·rw [h1,cond_true] at h
   have:=Nat.le_of_ble_eq_true h1
   omega
section
variable {Φ:PH}{p x k:Nat}
theorem jg (h1:∀w v,Φ p w v->v = .int .u64 ((prK k:Nat):Int)) (hx:Φ x=Nu ((prK (k+1):Nat):Int)) (hk:k+1<256) (hpm:prm (prK (k+1))=true):ai Φ Tryz.prog ⟨114,[.fact p],[oK x],false⟩:=by
 have hb:=gp hk
 have e:prK (k+1)=fE (prK k) (prK k-2):=pU k
 have hl:=(jy (k:=k) (by omega)).2
 rw [e] at hb hpm
 obtain ⟨m,em,hm,hj⟩:=Bb (by omega) hpm
 rw [em] at hpm hb
 refine aW (NW (p:=prK k) (m:=m) (by omega) (by omega) hj hpm) ⟨h1,trivial⟩ ⟨⟨rfl,⟨rfl,rfl,fun _ _ h=>?_⟩,trivial⟩,trivial⟩
 rw [hx,e,em]
 exact h
end
end Go.Proofs.YtbokonbbokhjlaaGreat.Sym
