/- Machine words -/
import Derived.WalkKit
import Derived.Laws.BitsAllLaws
import Derived.Test.YtbjfgffibepmkaaGreatQuot
import Derived.Outline
import Derived.Lib.Hide
import Derived.Laws.CopyOwn
import Derived.Test.YtbjfgffibepmkaaGreatProg
import Derived.Lib.BitFns
import Derived.Deep.QuietTactic
import Derived.BigQuiet
import Derived.Lib.AppendZerosOnto
namespace Go.Proofs.YtbjfgffibepmkaaGreat
open Go.Proofs.Tryz
open Lib (hid)
open Go.RowKit
variable {B cap g j m n off x y:Nat}{a b w w':World}{e:TypeId}{c:Nat->Value}{k:IntKind}{v:Value}{xs:List Nat}{p:Option Addr}
theorem and1 (a:Int) (h:0<=a:=by omega) (h':a<18446744073709551616:=by omega):bits .and .u64 a 1=a % 2:=by
 rw [u64_and a 1 h h' (by omega) (by omega)]
 rw [show (1:Int).toNat=1 from rfl,Nat.and_one_is_mod]
 omega
theorem FN (x y c:Nat) (hx:x<4294967296) (h:y+c<=x:=by omega):bits .and .u64 (((x:Int)-(y:Int)-(c:Int)) / 4294967296) 1=0:=by
 rw [and1 _]
 omega
theorem FO (x y c:Nat) (hy:y<4294967296) (hc:c<=1) (h:x<y) :
  bits .and .u64 (IntKind.u64.wrap (IntKind.u64.wrap ((x:Int)-(y:Int))-(c:Int)) / 4294967296) 1=1:=by
 rw [IntKind.wrap_u64,IntKind.wrap_u64,and1 _]
 omega
theorem FP (x y c:Nat) (hy:y<4294967296) (hc:c<=1) (h:x<y) :
  IntKind.u64.wrap (IntKind.u64.wrap ((x:Int)-(y:Int))-(c:Int)) % 4294967296=(x:Int)+4294967296-(y+c):=by
 rw [IntKind.wrap_u64,IntKind.wrap_u64]
 omega
theorem FQ (x y c:Nat) (hc:c<=1) (h':x<y+c) (h:y<=x:=by omega) :
  bits .and .u64 (IntKind.u64.wrap ((x:Int)-(y:Int)-(c:Int)) / 4294967296) 1=1:=by
 rw [IntKind.wrap_u64,and1 _]
 omega
theorem FR (x y c:Nat) (hc:c<=1) (h':x<y+c) (h:y<=x:=by omega) :
  IntKind.u64.wrap ((x:Int)-(y:Int)-(c:Int)) % 4294967296=(x:Int)+4294967296-(y+c):=by
 rw [IntKind.wrap_u64]
 omega
theorem pB  (h:n<32):2 ^ n<=2147483648:=Nat.pow_le_pow_right (by omega) (show n<=31 by omega)
theorem FT (cr y n:Nat) (h:cr<2 ^ n) (hn:n<32) (hy:y<4294967296):bits .or .u64 (cr:Int) (IntKind.u64.wrap ((y:Int)*2 ^ n))=((cr+y*2 ^ n:Nat):Int):=by
 have hp:=pB hn
 have hm:y*2 ^ n<=4294967295*2147483648:=Nat.mul_le_mul (by omega) hp
 have e:((y:Int)*2 ^ n)=((y*2 ^ n:Nat):Int):=by push_cast;rfl
 rw [e,IntKind.wrap_u64]
 rw [show ((y*2 ^ n:Nat):Int) % 18446744073709551616=((y*2 ^ n:Nat):Int) by omega]
 rw [u64_or_nat _ _ (by omega) (by omega),Nat.or_comm,nat_join n _ _ (by rw [Nat.mul_mod_left]) h]
 omega
theorem sb (hi lo:Nat) (h2:lo<4294967296):bits .or .u64 (IntKind.u64.wrap ((hi:Int)*4294967296)) (lo:Int)=(((hi % 4294967296)*4294967296+lo:Nat):Int):=by
 rw [IntKind.wrap_u64]
 rw [show (hi:Int)*4294967296 % 18446744073709551616=(((hi % 4294967296)*4294967296:Nat):Int) by omega]
 rw [u64_or_nat _ _ (by omega) (by omega),nat_join 32 _ _ (by omega) (by omega)]
theorem FU (a n:Nat):((a:Nat):Int) / 2 ^ n=((a / 2 ^ n:Nat):Int):=by push_cast;rfl
theorem sc  (h1:x<4294967296) (h2:y<4294967296):x*y<=18446744065119617025:=
 Nat.le_trans (Nat.mul_le_mul (show x<=4294967295 by omega) (show y<=4294967295 by omega)) (by omega)
theorem sd  (h1:x<4294967296) (h2:y<4294967296):(x:Int)*(y:Int)<=18446744065119617025:=by
 have:=sc h1 h2
 rw [<- Int.natCast_mul]
 omega
theorem se (x y:Nat):0<=(x:Int)*(y:Int):=by
 rw [<- Int.natCast_mul]
 omega
def aJ (w:World) (e:TypeId) (g n:Nat) (c:Nat->Value):Prop:=
 ∃cur:Array Value,w.heap[g]?=some (.cells cur e (0,0))∧cur.size=n∧∀j,j<n->cur[j]?=some (c j)
def upd (c:Nat->Value) (i:Nat) (v:Value):Nat->Value:=fun j=>if j=i then v else c j
theorem iZ (c:Nat->Value) (i:Nat) (v:Value):upd c i v i=v:=by simp [upd]
theorem upd_ne (c:Nat->Value){i:Nat} (v:Value) (h:j≠i):upd c i v j=c j:=by simp [upd,h]
theorem aJ.lt  (h:aJ w e g n c):g<w.heap.size:=by
 obtain ⟨cur,h1,_⟩:=h
 exact (Array.getElem?_eq_some_iff.1 h1).1
theorem aJ.cell  (h:aJ w e g n c) (hj:j<n):w.cell? ⟨g,j,none⟩=some (c j):=by
 obtain ⟨cur,h1,h2,h3⟩:=h
 simp [World.cell?,h1,h3 j hj]
theorem aJ.frozen {c:Nat->Value} (h:aJ w e g n c) (j:Nat):w.frozen? ⟨g,j,none⟩=false:=by
 obtain ⟨cur,h1,h2,h3⟩:=h
 simp [World.frozen?,h1]
theorem aJ.of_block  (h:aJ w e g n c) (hb:w'.heap[g]?=w.heap[g]?):aJ w' e g n c:=by
 obtain ⟨cur,h1,h2,h3⟩:=h
 exact ⟨cur,hb.trans h1,h2,h3⟩
theorem aJ.congr {c':Nat->Value} (h:aJ w e g n c) (hc:∀j,j<n->c j=c' j):aJ w e g n c':=by
 obtain ⟨cur,h1,h2,h3⟩:=h
 exact ⟨cur,h1,h2,fun j hj=>by rw [h3 j hj,hc j hj]⟩
theorem aJ.drew  (h:aJ w e g n c):aJ w.drew e g n c:=h
theorem aJ.set  (h:aJ w e g n c) (i:Nat) (v:Value):aJ (w.setCell ⟨g,i,none⟩ v) e g n (upd c i v):=by
 obtain ⟨cur,h1,h2,h3⟩:=h
 refine ⟨cur.setIfInBounds i v,?_,by simpa using h2,fun j hj=>?_⟩
 ·simp [World.setCell,Array.getElem?_modify,h1]
 ·rw [Array.getElem?_setIfInBounds]
  by_cases e:i=j
  ·subst e;rw [iZ,if_pos rfl,if_pos (by omega)]
  ·rw [if_neg e,upd_ne _ _ (fun x=>e x.symm)];exact h3 j hj
theorem aJ.io  (h:aJ w e g n c){a:Addr} (ha:a.block≠g) (v:Value):aJ (w.setCell a v) e g n c:=
 h.of_block (Below.heap_setCell _ _ _ _ (fun x=>ha x.symm))
theorem aJ.alloc  (h:aJ w e g n c) (o:Obj):aJ (w.alloc o) e g n c:=
 h.of_block (Below.heap_alloc _ _ _ h.lt)
theorem aJ.made (w:World) (cur:Array Value) (e:TypeId) (c:Nat->Value) (h:∀j,j<cur.size->cur[j]?=some (c j)):aJ (w.alloc (.cells cur e)) e w.heap.size cur.size c:=
 ⟨cur,heap_alloc_new w _,rfl,h⟩
theorem bt (w:World) (row:Option Nat):w.grownBy w row:=⟨rfl,rfl,rfl,Nat.le_refl _,fun _ _ _=>rfl⟩
theorem aR {c:World}{row:Option Nat} (h:a.grownBy b row) (k:b.grownBy c row):a.grownBy c row:=
 ⟨k.os.trans h.os,k.tape.trans h.tape,k.output.trans h.output,Nat.le_trans h.size k.size,
  fun i hi hne=>(k.block i (Nat.lt_of_lt_of_le hi h.size) hne).trans (h.block i hi hne)⟩
theorem dl (w:World) (row:Option Nat):w.grownBy w.drew row:=⟨rfl,rfl,rfl,Nat.le_refl _,fun _ _ _=>rfl⟩
theorem bV (w:World) (g i:Nat) (v:Value):w.grownBy (w.setCell ⟨g,i,none⟩ v) (some g):=
 ⟨rfl,rfl,rfl,by simp,fun k _ hk=>Below.heap_setCell _ _ _ _ (by simpa using hk)⟩
theorem bg (w:World) (o:Obj) (row:Option Nat):w.grownBy (w.alloc o) row:=World.grownBy_alloc w o row
theorem wO  (h:Below a.heap.size a b):a.grownBy b none:=⟨h.os,h.tape,h.output,h.size,fun k hk _=>h.block k hk⟩
theorem below_grown  (h:a.grownBy b none):Below a.heap.size a b:=⟨h.os,h.tape,h.output,h.size,fun k hk=>h.block k hk (by simp)⟩
theorem cK {c:World} (h:a.grownBy b none) (k:b.grownBy c (some g)) (hg:a.heap.size<=g):a.grownBy c none:=
 ⟨k.os.trans h.os,k.tape.trans h.tape,k.output.trans h.output,Nat.le_trans h.size k.size,
  fun i hi hne=>(k.block i (Nat.lt_of_lt_of_le hi h.size) (fun x=>by cases x;omega)).trans (h.block i hi hne)⟩
theorem aJ.grown {row:Option Nat} (h:aJ w e g n c) (hg:w.grownBy w' row) (hne:some g≠row):aJ w' e g n c:=
 h.of_block (hg.block g h.lt hne)
def Sl (w:World) (k:IntKind) (v:Value) (xs:List Nat):Prop:=
 ∃(p:Option Addr) (cap:Nat),v = .slice p xs.length cap∧xs.length<=cap∧cap<=9223372036854775807 ∧
  (xs = []∨∃b off,p=some ⟨b,off,none⟩∧b<w.heap.size∧∀j,j<xs.length->w.cell? ⟨b,off+j,none⟩=some (.int k (nth xs j)))
theorem Sl.grown {row:Option Nat} (h:Sl w k v xs) (hg:w.grownBy w' row) (hne:row=none∨v.ownBlock≠row):Sl w' k v xs:=by
 obtain ⟨p,cap,rfl,h1,h2,h3⟩:=h
 refine ⟨p,cap,rfl,h1,h2,?_⟩
 rcases h3 with h3 | ⟨b,off,rfl,h4,h5⟩
 ·exact .inl h3
 ·refine .inr ⟨b,off,rfl,Nat.lt_of_lt_of_le h4 hg.size,fun j hj=>?_⟩
  rw [World.cell?_of_block (w := w) (hg.block b h4 (by rcases hne with rfl | hne; · simp
                                                       · simpa [Value.ownBlock] using hne))]
  exact h5 j hj
theorem Sl.below  (h:Sl w k v xs) (hb:Below w.heap.size w w'):Sl w' k v xs:=h.grown (wO hb) (.inl rfl)
theorem Sl.nil (w:World) (k:IntKind):Sl w k (.slice none 0 0) []:=⟨none,0,rfl,Nat.le_refl _,by omega,.inl rfl⟩
theorem Sl.zero (w:World) (k:IntKind) (p:Option Addr) (cap:Nat) (hc:cap<=9223372036854775807):Sl w k (.slice p 0 cap) []:=⟨p,cap,rfl,Nat.zero_le _,hc,.inl rfl⟩
theorem Sl.block_lt {xs:List Nat} (h:Sl w k v xs) (hne:xs ≠ []):∀b,v.ownBlock=some b->b<w.heap.size:=by
 obtain ⟨p,cap,rfl,h1,h2,h3⟩:=h
 rcases h3 with h3 | ⟨b,off,rfl,h4,h5⟩
 ·exact absurd h3 hne
 ·intro b' hb;simp [Value.ownBlock] at hb;subst hb;exact h4
theorem Sl.take  (h:Sl w k (.slice p m cap) xs) (n:Nat) (hn:n<=xs.length):Sl w k (.slice p n cap) (xs.take n):=by
 obtain ⟨p',cap',e,h1,h2,h3⟩:=h
 simp only [Value.slice.injEq] at e
 obtain ⟨rfl,rfl,rfl⟩:=e
 have hl:(xs.take n).length=n:=by rw [List.length_take,Nat.min_eq_left hn]
 refine ⟨p,cap,by rw [hl],by omega,h2,?_⟩
 rcases h3 with rfl | ⟨b,off,rfl,h4,h5⟩
 ·exact .inl (by simp)
 ·exact .inr ⟨b,off,rfl,h4,fun j hj=>by rw [hl] at hj;rw [fr _ hj];exact h5 j (by omega)⟩
def Own (w:World) (e:TypeId) (k:IntKind) (B:Nat) (v:Value) (xs:List Nat):Prop:=
 (v = .slice none 0 0∧xs = []) ∨
 ∃g cap c,v = .slice (some ⟨g,0,none⟩) xs.length cap∧B<=g∧aJ w e g cap c∧xs.length<=cap∧cap<=9223372036854775807∧∀j,j<xs.length->c j = .int k (nth xs j)
theorem Own.sl  (h:Own w e k B v xs):Sl w k v xs:=by
 rcases h with ⟨rfl,rfl⟩ | ⟨g,cap,c,rfl,h1,h2,h3,h4,h5⟩
 ·exact Sl.nil w k
 ·exact ⟨_,cap,rfl,h3,h4,.inr ⟨g,0,rfl,h2.lt,fun j hj=>by rw [Nat.zero_add,h2.cell (by omega),h5 j hj]⟩⟩
theorem Own.nil (w:World) (e:TypeId) (k:IntKind) (B:Nat):Own w e k B (.slice none 0 0) []:=.inl ⟨rfl,rfl⟩
theorem Own.mono {B':Nat} (h:Own w e k B v xs) (hB:B'<=B):Own w e k B' v xs:=by
 rcases h with h | ⟨g,cap,c,h0,h1,h2⟩
 ·exact .inl h
 ·exact .inr ⟨g,cap,c,h0,by omega,h2⟩
theorem Own.lt  (h:Own w e k B v xs):∀g,v.ownBlock=some g->B<=g∧g<w.heap.size:=by
 intro g hg
 rcases h with ⟨rfl,rfl⟩ | ⟨g',cap,c,rfl,h1,h2,h3⟩
 ·simp [Value.ownBlock] at hg
 ·simp [Value.ownBlock] at hg;subst hg;exact ⟨h1,h2.lt⟩
theorem Own.grown {row:Option Nat} (h:Own w e k B v xs) (hg:w.grownBy w' row) (hne:row=none∨v.ownBlock≠row):Own w' e k B v xs:=by
 rcases h with h | ⟨g,cap,c,rfl,h1,h2,h3⟩
 ·exact .inl h
 ·refine .inr ⟨g,cap,c,rfl,h1,h2.grown hg ?_,h3⟩
  rcases hne with rfl | hne
  ·simp
  ·simpa [Value.ownBlock] using hne
theorem Own.below  (h:Own w e k B v xs) (hb:Below w.heap.size w w'):Own w' e k B v xs:=h.grown (wO hb) (.inl rfl)
theorem Own.take  (h:Own w e k B (.slice p m cap) xs) (n:Nat) (hn:n<=xs.length):Own w e k B (.slice p n cap) (xs.take n):=by
 have hl:(xs.take n).length=n:=by rw [List.length_take,Nat.min_eq_left hn]
 rcases h with ⟨e,rfl⟩ | ⟨g,cap',c,e,h1,h2,h3,h4,h5⟩
 ·simp only [Value.slice.injEq] at e
  obtain ⟨rfl,rfl,rfl⟩:=e
  obtain rfl:n=0:=(by simpa using hn)
  exact .inl ⟨rfl,rfl⟩
 ·simp only [Value.slice.injEq] at e
  obtain ⟨rfl,rfl,rfl⟩:=e
  refine .inr ⟨g,cap,c,by rw [hl],h1,h2,by omega,h4,fun j hj=>?_⟩
  rw [hl] at hj
  rw [fr _ hj]
  exact h5 j (by omega)
def vals (k:IntKind) (xs:List Nat):List Value:=xs.map fun (x:Nat)=>Value.int k (x:Int)
theorem lJ (k:IntKind) (xs:List Nat):(vals k xs).length=xs.length:=by simp [vals]
theorem mW (k:IntKind) (xs:List Nat) (h:j<xs.length):(vals k xs)[j]?=some (.int k (nth xs j)):=by
 simp [vals,FV xs h]
theorem wP (k:IntKind) (xs ys:List Nat):vals k (xs ++ ys)=vals k xs ++ vals k ys:=by simp [vals]
theorem sf (k:IntKind) (xs:List Nat):∀v ∈ vals k xs,v.oneCell'=true:=by
 intro v hv
 obtain ⟨x,_,rfl⟩:=List.mem_map.1 hv
 rfl
theorem Own.row  (h:Own w e k B v xs):w.ownsRow B e 1 v xs.length (vals k xs):=by
 refine ⟨by rw [lJ];omega,?_⟩
 rcases h with ⟨rfl,rfl⟩ | ⟨g,cap,c,rfl,h1,⟨cur,h2,h2s,h2c⟩,h3,h4,h5⟩
 ·exact .inl ⟨rfl,rfl⟩
 ·refine .inr ⟨g,cap,cur,rfl,h1,h2,h3,h4,by omega,?_⟩
  apply List.ext_getElem?
  intro j
  by_cases hj:j<xs.length
  ·rw [List.getElem?_take,if_pos (by omega),mW k xs hj,<- h5 j hj,Array.getElem?_toList,h2c j (by omega)]
  ·rw [List.getElem?_eq_none (by rw [List.length_take];omega),List.getElem?_eq_none (by rw [lJ];omega)]
theorem Own.wQ  (h:w.ownsRow B e 1 v n (vals k xs)):Own w e k B v xs:=by
 obtain ⟨h0,h⟩:=h
 rw [lJ,Nat.mul_one] at h0
 subst h0
 rcases h with ⟨rfl,h⟩ | ⟨g,cap,cur,rfl,h1,h2,h3,h4,h5,h6⟩
 ·exact .inl ⟨rfl,List.eq_nil_of_length_eq_zero h⟩
 ·refine .inr ⟨g,cap,fun j=>(cur[j]?).getD undef,rfl,h1,⟨cur,h2,by omega,fun j hj=>?_⟩,h3,h4,fun j hj=>?_⟩
  ·show cur[j]?=some ((cur[j]?).getD undef)
   rw [Array.getElem?_eq_getElem (by omega)];rfl
  ·have hv:=mW k xs hj
   rw [<- h6,List.getElem?_take,if_pos (by omega),Array.getElem?_toList] at hv
   show (cur[j]?).getD undef=_
   rw [hv];rfl
def lay (c:Nat->Value) (off n:Nat) (k:IntKind) (xs:List Nat):Nat->Value:=fun j=>if off<=j∧j<off+n then .int k (nth xs (j-off)) else c j
theorem gQ (c:Nat->Value) (k:IntKind) (xs:List Nat) (h:j<n:=by omega):lay c off n k xs (off+j) = .int k (nth xs j):=by
 unfold lay
 rw [if_pos (by omega),Nat.add_sub_cancel_left]
theorem ip (c:Nat->Value) (k:IntKind) (xs:List Nat) (h:j<n):lay c 0 n k xs j = .int k (nth xs j):=by
 have:=gQ c (off:=0) k xs (h:=h)
 rwa [Nat.zero_add] at this
theorem dQ (c:Nat->Value) (k:IntKind) (xs:List Nat) (h:j<off∨off+n<=j:=by omega):lay c off n k xs j=c j:=by
 unfold lay
 rw [if_neg (by omega)]
section
variable {P:Program}{ops:Array Oper}{rest:List Oper}{o:Oper}{a:Act}{Q:Exit->Act->World->Prop}
theorem gR (hg:o.guard=none) (l c:Operand) (t:TypeId) (hop:o.op=Op.makeSlice t l c) (e:TypeId) (i:TypeInfo) (z:Value)
  (h1:P.underlying t=some (.slice e)) (h2:P.info? e=some i) (h3:i.zero=some z) (h4:i.size=1) (hz:z.cells = #[z])
  (kl kc:IntKind) (L C:Int) (n m:Nat) (hl:a.eval l = .int kl L) (hc:a.eval c = .int kc C) (hnm:n<=m)
  (hK:∀w',aJ w' e w.heap.size m (fun _=>z)->w.grownBy w' none->w'.heap.size=w.heap.size+1->wpList P ops Q rest (a.put o.dst (.slice (some ⟨w.heap.size,0,none⟩) n m)) w') (h5:i.bytes<=8:=by omega) (hL:L=(n:Int):=by omega) (hC:C=(m:Int):=by omega) (hm:m<=17592186044416:=by omega) :
  wpList P ops Q (o :: rest) a w:=by
 refine wpList_plain hg fun K hK'=>?_
 subst hL
 subst hC
 have hbytes:(i.bytes:Int)*(m:Int)<=281474976710656:=by
  have h:i.bytes*m<=8*m:=Nat.mul_le_mul_right m h5
  have h':((i.bytes*m:Nat):Int)<=281474976710656:=by omega
  rwa [Int.natCast_mul] at h'
 have hr:=run_make (P:=P) w t e i z h1 h2 h3 kl kc n m (by omega) (by omega) hbytes (by omega)
 simp only [Int.toNat_natCast,h4,Nat.mul_one] at hr
 unfold Oper.wp
 simp [execOp,hop,hl,hc,hr,Result.andThen]
 refine hK' _ _ (hK _ ?_ (bg _ _ _) (by simp))
 have hrow:=aJ.made w (madeCells z.cells m) e (fun _=>z) (fun j hj=>by
  rw [size_madeCells] at hj
  simp [madeCells,hz,hj,Nat.mod_one])
 rwa [size_madeCells] at hrow
theorem FW (hgd:o.guard=none) (d s:Operand) (dT sT:TypeId) (ho:o.op = .call { callee:=.builtin .copy,args:=#[d,s],argTypes:=#[dT,sT] })
  (e:TypeId) (hu:P.underlying dT=some (.slice e)) (hsz:(P.info? e).map (·.size)=some 1) (k:IntKind)
  (sp:Option Addr) (g off N n dLen dCap sLen sCap:Nat) (c:Nat->Value) (xs:List Nat) (hd:a.eval d = .slice (some ⟨g,off,none⟩) dLen dCap) (hs:a.eval s = .slice sp sLen sCap)
  (hsl:Sl w k (.slice sp sLen sCap) xs) (hrow:aJ w e g N c) (hn:n=Nat.min sLen dLen)
  (hK:∀w',aJ w' e g N (lay c off n k xs)->w.grownBy w' (some g)->w'.heap.size=w.heap.size->wpList P ops Q rest (a.put o.dst (goInt n)) w') (hfit:off+n<=N:=by omega) :
  wpList P ops Q (o :: rest) a w:=by
 obtain ⟨p',cap',e',h1,h2,h3⟩:=hsl
 simp only [Value.slice.injEq] at e'
 obtain ⟨rfl,rfl,rfl⟩:=e'
 by_cases h0:n=0
 ·subst h0
  refine wpList_copy_nothing hgd d s dT sT ho e hu hsz _ _ _ _ _ _ hd hs hn.symm ?_
  refine hK w (hrow.congr fun j hj=>?_) (bt _ _) rfl
  rw [dQ _ _ _]
 ·have hmin:n<=xs.length:=by rw [hn];exact Nat.min_le_left _ _
  have aav:n<=dLen:=by rw [hn];exact Nat.min_le_right _ _
  rcases h3 with rfl | ⟨b,gf,rfl,h4,h5⟩
  ·simp at hmin;exact absurd hmin h0
  obtain ⟨cur,r1,r2,r3⟩:=hrow
  have hlen:(vals k (xs.take n)).length=n:=by rw [lJ,List.length_take,Nat.min_eq_left hmin]
  refine wpList_copy_own hgd d s dT sT ho e hu hsz g off dLen dCap ⟨b,gf,none⟩ xs.length sCap hd hs cur e r1 (vals k (xs.take n)) (by rw [hlen,hn]) ?_ (by rw [hlen];omega) (sf _ _) ?_
  ·intro j v hj
   have hjl:j<n:=by
    have:=(List.getElem?_eq_some_iff.1 hj).1
    omega
   rw [mW k _ (by rw [List.length_take,Nat.min_eq_left hmin];exact hjl)] at hj
   rw [Addr.add_lit,h5 j (by omega),<- hj,fr _ hjl]
  ·rw [hlen]
   refine hK _ ?_ ⟨rfl,rfl,rfl,by simp [World.setRow],fun i _ hi=>setRow_other w g i _ (fun x=>hi (by rw [x]))⟩ (by simp [World.setRow])
   refine ⟨_,setRow_heap w g cur _ e _ r1,?_,?_⟩
   ·simp [hlen];omega
   ·intro j hj
    have r:=r3 j hj
    simp only [List.getElem?_toArray,List.getElem?_append,List.length_take,Array.length_toList]
    unfold lay
    by_cases c1:j<off
    ·rw [if_pos (by omega),if_neg (by omega),List.getElem?_take,if_pos c1,Array.getElem?_toList,r]
    ·rw [if_neg (by omega)]
     have ho:min off cur.size=off:=by omega
     rw [ho,hlen]
     by_cases c2:j<off+n
     ·rw [if_pos (by omega),if_pos (by omega),mW k _ (by rw [List.length_take,Nat.min_eq_left hmin];omega),fr _ (by omega)]
     ·rw [if_neg (by omega),if_neg (by omega),List.getElem?_drop,Array.getElem?_toList,<- r]
      congr 1
      omega
end
theorem iq (c:Nat->Value) (off:Nat) (k:IntKind) (xs:List Nat):lay c off 0 k xs=c:=by
 funext j
 exact dQ _ _ _
theorem wR (c:Nat->Value) (off n:Nat) (k:IntKind) (xs:List Nat) (hv:v = .int k (nth xs n)):upd (lay c off n k xs) (off+n) v=lay c off (n+1) k xs:=by
 funext j
 subst hv
 by_cases h:j=off+n
 ·subst h
  rw [iZ,gQ _ _ _]
 ·rw [upd_ne _ _ h]
  by_cases h2:off<=j∧j<off+n
  ·obtain ⟨i,rfl⟩:∃i,j=off+i:=⟨j-off,by omega⟩
   rw [gQ _ _ _,gQ _ _ _]
  ·rw [dQ _ _ _,dQ _ _ _]
theorem gx (c:Nat->Value) (n:Nat) (k:IntKind) (xs:List Nat) (hv:v = .int k (nth xs n)):upd (lay c 0 n k xs) n v=lay c 0 (n+1) k xs:=by
 have:=wR c 0 n k xs hv
 rwa [Nat.zero_add] at this
theorem int_eq {a b:Int} (h:a=b):Value.int k a=Value.int k b:=by rw [h]
section
variable {P:Program}{ops:Array Oper}{rest:List Oper}{o:Oper}{a:Act}{Q:Exit->Act->World->Prop}
theorem ir (hgd:o.guard=none) (s x:Operand) (t:TypeId) (ho:o.op = .call { callee:=.builtin .append,args:=#[s,x],argTypes:=#[t,t] })
  (e:TypeId) (i:TypeInfo) (z:Value) (k:IntKind) (ht:P.underlying t=some (.slice e)) (hi:P.info? e=some i) (hz:i.zero=some z) (hsize:i.size=1) (hzs:z.cells.size=1)
  (B:Nat) (v:Value) (xs:List Nat) (y:Nat) (hs:a.eval s=v) (hown:Own w e k B v xs) (q:Nat) (hx:a.eval x = .slice (some ⟨q,0,none⟩) 1 1) (hq:w.cell? ⟨q,0,none⟩=some (.int k (y:Int)))
  (hlen:xs.length<17592186044416) (hB:B<=w.heap.size)
  (hK:∀v' w',Own w' e k B v' (xs ++ [y])->w.grownBy w' v.ownBlock->wpList P ops Q rest (a.put o.dst v') w') (hby:i.bytes<=8:=by omega):wpList P ops Q (o :: rest) a w:=by
 refine wpList_append_own w hgd s x t ho B e i z 1 i.bytes ht hi hz hsize rfl hzs (by omega) v xs.length (vals k xs) hs hown.row ⟨q,0,none⟩ 1 1 (vals k [y]) hx rfl ?_ (sf _ _) (by simp only [maxLen];omega) ?_ hB ?_
 ·intro j u hj
  have hj0:j=0:=by
   have:=(List.getElem?_eq_some_iff.1 hj).1
   simp [vals] at this
   exact this
  subst hj0
  simp [vals] at hj
  rw [Addr.add_lit,<- hj]
  exact hq
 ·have h:(xs.length+1)*i.bytes<=(xs.length+1)*8:=Nat.mul_le_mul_left _ hby
  omega
 ·intro v' w' h1 h2 _
  refine hK v' w' ?_ h2
  rw [<- wP] at h1
  exact Own.wQ h1
end
def wS (w:World) (v:Value) (n:Nat) (vs:Nat->Value):Prop:=
 ∃(p:Option Addr) (cap:Nat),v = .slice p n cap∧n<=cap∧cap<=9223372036854775807 ∧
  (n=0∨∃b off,p=some ⟨b,off,none⟩∧b<w.heap.size∧∀j,j<n->w.cell? ⟨b,off+j,none⟩=some (vs j))
theorem gy {a b:Int} (h:a=b):Ending.returned (.int k a) = .returned (.int k b):=by rw [h]
set_option maxHeartbeats 4000000 in
set_option maxRecDepth 100000 in
theorem wT (x:Int) (w:World) (h0:0<=x) (h1:x<=4294967295) :
  Calls prog 189 #[.int .u32 x] w fun e w'=>e = .returned (.int .i64 (Lib.bitLen x.toNat))∧w=w':=by
 have R:∀(i:Int) (w:World),0<=i->i<=255->(Instr.index 9 (.string Lib.len8tab) (.int .u8 i)).run prog w = .ok (.int .u8 (Lib.len8 i)) w:=fun i w a b=>Lib.run_index_len8tab w 9 .u8 i underlying9 a (by omega)
 by_cases c1:65536<=x
 ·by_cases c2:256<=x / 65536
  ·have r:=fun w=>R (x / 65536 / 256) w (by omega) (by omega)
   have B:=hid (Lib.bitLen_shift24 x.toNat (by omega) (by omega))
   have E:=hid (show (x / 65536 / 256).toNat=x.toNat / 16777216 by omega)
   have L:=hid (Lib.bitLen_le8' (x / 65536 / 256) (by omega) (by omega))
   have K:=hid (Lib.len8_of (x / 65536 / 256) (by omega) (by omega))
   clear R
   have a1:0<=Lib.len8 (x / 65536 / 256):=by rw [K.out];omega
   have a2:Lib.len8 (x / 65536 / 256)<=8:=by rw [K.out];have:=L.out;omega
   go_enter func189,ntmps189
   go_wp2
   go_ret
   refine ⟨gy ?_,rfl⟩
   rw [B.out,<- E.out,K.out];omega
  ·have r:=fun w=>R (x / 65536) w (by omega) (by omega)
   have B:=hid (Lib.bitLen_shift16 x.toNat (by omega) (by omega))
   have E:=hid (show (x / 65536).toNat=x.toNat / 65536 by omega)
   have L:=hid (Lib.bitLen_le8' (x / 65536) (by omega) (by omega))
   have K:=hid (Lib.len8_of (x / 65536) (by omega) (by omega))
   clear R
   have a1:0<=Lib.len8 (x / 65536):=by rw [K.out];omega
   have a2:Lib.len8 (x / 65536)<=8:=by rw [K.out];have:=L.out;omega
   go_enter func189,ntmps189
   go_wp2
   go_ret
   refine ⟨gy ?_,rfl⟩
   rw [B.out,<- E.out,K.out];omega
 ·by_cases c2:256<=x
  ·have r:=fun w=>R (x / 256) w (by omega) (by omega)
   have B:=hid (Lib.bitLen_shift8 x.toNat (by omega) (by omega))
   have E:=hid (show (x / 256).toNat=x.toNat / 256 by omega)
   have L:=hid (Lib.bitLen_le8' (x / 256) (by omega) (by omega))
   have K:=hid (Lib.len8_of (x / 256) (by omega) (by omega))
   clear R
   have a1:0<=Lib.len8 (x / 256):=by rw [K.out];omega
   have a2:Lib.len8 (x / 256)<=8:=by rw [K.out];have:=L.out;omega
   go_enter func189,ntmps189
   go_wp2
   go_ret
   refine ⟨gy ?_,rfl⟩
   rw [B.out,<- E.out,K.out];omega
  ·have r:=fun w=>R x w (by omega) (by omega)
   have L:=hid (Lib.bitLen_le8' x (by omega) (by omega))
   have K:=hid (Lib.len8_of x (by omega) (by omega))
   clear R
   have a1:0<=Lib.len8 x:=by rw [K.out];omega
   have a2:Lib.len8 x<=8:=by rw [K.out];have:=L.out;omega
   go_enter func189,ntmps189
   go_wp2
   go_ret
   refine ⟨gy ?_,rfl⟩
   rw [K.out]
theorem wU (f:Nat):∀x,x<2 ^ f->x<2 ^ Lib.bitLenAux f x∧(0<x->2 ^ (Lib.bitLenAux f x-1)<=x∧0<Lib.bitLenAux f x):=by
 induction f with
 | zero=>
  intro x h
  obtain rfl:x=0:=(by simpa using h)
  simp [Lib.bitLenAux]
 | succ f ih=>
  intro x h
  by_cases h0:x=0
  ·subst h0;simp [Lib.bitLenAux]
  ·obtain ⟨h1,h2⟩:=ih (x / 2) (by rw [Nat.pow_succ] at h;omega)
   have e:Lib.bitLenAux (f+1) x=1+Lib.bitLenAux f (x / 2):=by simp [Lib.bitLenAux,h0]
   rw [e]
   have p:(2:Nat) ^ (1+Lib.bitLenAux f (x / 2))=2*2 ^ Lib.bitLenAux f (x / 2):=by rw [Nat.pow_add]
   refine ⟨by rw [p];omega,fun _=>⟨?_,by omega⟩⟩
   rw [Nat.add_sub_cancel_left]
   by_cases h3:x / 2=0
   ·rw [h3]
    have:Lib.bitLenAux f 0=0:=by cases f <;> simp [Lib.bitLenAux]
    rw [this];omega
   ·obtain ⟨h4,h5⟩:=h2 (by omega)
    obtain ⟨m,hm⟩:∃m,Lib.bitLenAux f (x / 2)=m+1:=⟨Lib.bitLenAux f (x / 2)-1,by omega⟩
    rw [hm] at h4 ⊢
    rw [Nat.add_sub_cancel] at h4
    rw [Nat.pow_succ]
    omega
theorem wV (x:Nat) (h:x<18446744073709551616:=by omega):x<2 ^ Lib.bitLen x:=(wU 64 x h).1
theorem wW (x:Nat) (h0:0<x) (h:x<18446744073709551616:=by omega):2 ^ (Lib.bitLen x-1)<=x∧0<Lib.bitLen x:=(wU 64 x h).2 h0
theorem wX (x:Int) (w:World) (h0:0<=x:=by omega) (h1:x<=4294967295:=by omega) :
  Calls prog 185 #[.int .u32 x] w fun e w'=>e = .returned (.int .i64 (32-(Lib.bitLen x.toNat:Int)))∧w=w':=by
 have hb:=Lib.bitLen_le x.toNat 32 (by omega) (by omega)
 go_enter func185,ntmps185
 go_wp2_with fail
 refine (wT x _ h0 h1).mono ?_
 rintro e w' ⟨rfl,rfl⟩
 generalize hl:Lib.bitLen x.toNat=l at *
 have HL:=hid hl
 clear hl
 go_wp2_with fail
 go_ret
 exact ⟨gy (by rw [HL.out]),rfl⟩
theorem FX (n y:Nat) (h:n / y<4294967296):(n:Int) / (y:Int) % 4294967296=((n / y:Nat):Int):=by
 rw [<- Int.natCast_ediv]
 generalize n / y=q at *
 omega
theorem FY (n y:Nat) (h:n % y<4294967296):(n:Int) % (y:Int) % 4294967296=((n % y:Nat):Int):=by
 rw [<- Int.natCast_emod]
 generalize n % y=q at *
 omega
theorem pC (hi lo:Nat) (h1:hi<4294967296) (h2:lo<4294967296):bits .or .u64 ((hi:Int)*4294967296) (lo:Int)=(hi:Int)*4294967296+lo:=by
 have e:((hi:Int)*4294967296)=((hi*4294967296:Nat):Int):=by omega
 rw [e,u64_or_nat _ _ (by omega) (by omega),nat_join 32 _ _ (by omega) (by omega)]
 omega
set_option maxHeartbeats 400000 in
theorem FZ (hi lo y:Nat) (w:World) (h1:hi<y) (h2:lo<4294967296) (h3:y<4294967296) :
  Calls prog 193 #[.int .u32 hi,.int .u32 lo,.int .u32 y] w fun e w'=>e = .returned (.tuple #[.int .u32 (((hi*4294967296+lo) / y:Nat):Int),.int .u32 (((hi*4294967296+lo) % y:Nat):Int)])∧∃n,w'=w.drewN n:=by
 have b1:(((y:Nat):Int) != 0)=true:=by rw [bne_iff_ne];omega
 have b2:decide (((y:Nat):Int)<=((hi:Nat):Int))=false:=by simp;omega
 have b3:decide (y<=hi)=false:=by simp;omega
 have so:=pC hi lo (by omega) h2
 go_enter func193,ntmps193
 go_wp2_with fail
 have y0:0<y:=by omega
 have hq:(hi*4294967296+lo) / y<4294967296:=by rw [Nat.div_lt_iff_lt_mul (by omega)];omega
 have hr:(hi*4294967296+lo) % y<y:=Nat.mod_lt _ y0
 go_quiet (fail)
 go_wp2
 go_ret2
 have f1:((hi:Int)*4294967296+lo) / (y:Int) % 4294967296=(((hi*4294967296+lo) / y:Nat):Int):=by
  rw [show ((hi:Int)*4294967296+lo)=((hi*4294967296+lo:Nat):Int) by omega]
  exact FX _ _ hq
 have f2:((hi:Int)*4294967296+lo) % (y:Int) % 4294967296=(((hi*4294967296+lo) % y:Nat):Int):=by
  rw [show ((hi:Int)*4294967296+lo)=((hi*4294967296+lo:Nat):Int) by omega]
  exact FY _ _ (Nat.lt_trans hr h3)
 exact ⟨by rw [<- f1,<- f2];rfl,_,rfl⟩
section
variable {P:Program}
theorem si (t ty e:TypeId) (i:TypeInfo) (ht:P.underlying t=some (.slice e)) (hi:P.info? e=some i) (base p:Option Addr) (n cap c:Nat) (h:n<=cap) :
  (Builtin.append_ #[t,t] ty #[.slice base n cap,.slice p 0 c]).run P w = .ok (.slice base n cap) w:=by
 cases base <;> cases p <;> simp [Builtin.append_,run_underlying ht,sizeOf,typeInfo,hi,Builtin.lenOf,h,Builtin.firstCells,loadCells,loadCellsFrom,storeCells]
variable {ops:Array Oper}{rest:List Oper}{o:Oper}{a:Act}{Q:Exit->Act->World->Prop}
theorem Ga (hgd:o.guard=none) (s x:Operand) (t:TypeId) (ho:o.op = .call { callee:=.builtin .append,args:=#[s,x],argTypes:=#[t,t] })
  (e:TypeId) (i:TypeInfo) (z:Value) (k:IntKind) (ht:P.underlying t=some (.slice e)) (hi:P.info? e=some i) (hz:i.zero=some z) (hsize:i.size=1) (hzs:z.cells.size=1)
  (B:Nat) (v:Value) (xs:List Nat) (hs:a.eval s=v) (hown:Own w e k B v xs) (p:Option Addr) (n c:Nat) (ys:List Nat) (hx:a.eval x = .slice p n c) (hsl:Sl w k (.slice p n c) ys)
  (hlen:xs.length+ys.length<=17592186044415)
  (hK:∀v' w',Own w' e k B v' (xs ++ ys)->w.grownBy w' v.ownBlock->wpList P ops Q rest (a.put o.dst v') w') (hby:i.bytes<=8:=by omega) (hB:B<=w.heap.size:=by simp):wpList P ops Q (o :: rest) a w:=by
 obtain ⟨p',c',e',h1,h2,h3⟩:=hsl
 simp only [Value.slice.injEq] at e'
 obtain ⟨rfl,rfl,rfl⟩:=e'
 rcases h3 with rfl | ⟨b,off,rfl,h4,h5⟩
 ·refine wpList_plain hgd fun K hK'=>?_
  obtain ⟨base,m,cap,rfl,hm⟩:∃base m cap,v = .slice base m cap∧m<=cap:=by
   rcases hown with ⟨rfl,rfl⟩ | ⟨g,cap,c,rfl,_,_,hle,_⟩
   ·exact ⟨_,_,_,rfl,Nat.le_refl _⟩
   ·exact ⟨_,_,_,rfl,hle⟩
  have hr:=si (P:=P) (w:=w) t o.type e i ht hi base p m cap c hm
  unfold Oper.wp
  simp [execOp,ho,resolve,invoke,builtin,hs,hx,hr,Result.andThen]
  exact hK' _ _ (hK _ w (by simpa using hown) (bt _ _))
 ·refine wpList_append_own w hgd s x t ho B e i z 1 i.bytes ht hi hz hsize rfl hzs (by omega) v xs.length (vals k xs) hs hown.row ⟨b,off,none⟩ ys.length c (vals k ys) hx (by rw [lJ];omega) ?_ (sf _ _) (by simp only [maxLen];omega) ?_ hB ?_
  ·intro j u hj
   have hjl:j<ys.length:=by
    have:=(List.getElem?_eq_some_iff.1 hj).1
    rwa [lJ] at this
   rw [mW k ys hjl] at hj
   rw [Addr.add_lit,<- hj]
   exact h5 j hjl
  ·have h:(xs.length+ys.length)*i.bytes<=(xs.length+ys.length)*8:=Nat.mul_le_mul_left _ hby
   omega
  ·intro v' w' g1 g2 _
   refine hK v' w' ?_ g2
   rw [<- wP] at g1
   exact Own.wQ g1
end
end Go.Proofs.YtbjfgffibepmkaaGreat
