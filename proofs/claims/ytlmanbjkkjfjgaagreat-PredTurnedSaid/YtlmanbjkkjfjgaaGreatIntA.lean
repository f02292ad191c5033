/- From a contract of a law -/
import Derived.Test.YtlmanbjkkjfjgaaGreatRows
import Derived.ProofKit
import Derived.OpenShut
import Derived.JoinedOf
import Derived.JoinedAt
import Derived.ChangeSlices
import Derived.ChangeSame
import Derived.Carry
import Derived.Test.YtlmanbjkkjfjgaaGreatRefA
import Derived.Deep.RegionHeld3
namespace Go.Proofs.YtlmanbjkkjfjgaaGreat
open Go.Proofs.Tryz
open Lib (hid)
open Go.RowKit
open Go.ChangeShapes Go.WideShapes Go.ChangeAt Go.RowKit
variable {s s' u v x:Value}{W w w':World}{q y z:Int}{B X Y cap g g' i j k n r:Nat}{e:Ending}{a:Addr}{cs:List (Nat×Nat×Value)}{rs xs:List Nat}{fn:Func}{R:Ending->World->Prop}{b b':Bool}{p:Option Addr}
theorem Tryz.own:ownKnob prog.godebug=none:=by kernel_rfl
theorem Tryz.laidOut:laidOutB prog=true:=by kernel_rfl
section
variable {H:Type}{enc:TypeId×Value->H}{P:Program}
theorem Ku (hl:laidOutB P=true){W W':World} (hb:Below W.heap.size W W'):∀(ts:List TypeId) (vs:List Value) (ds:List (DataW H)) (ps:List MemPlace),
  (∀t ∈ ts,P.readableRec t=true∧t<P.types.size)->DataW.TrodAll enc P W 0 (λ_=>true) true ts vs ds ps->(∀x ∈ ps,x.block<W.heap.size)->
  DataW.TrodAll enc P W' 0 (λb=>decide (b<W.heap.size)) true ts vs ds ps
 | [],vs,ds,ps,_,h,_=>by obtain ⟨rfl,rfl,rfl⟩:=trodAll_nil h;exact trodAll_mk0
 | t :: ts,vs,ds,ps,hr,h,hp=>by obtain ⟨v,vs',d,ds',p,q,rfl,rfl,rfl,h1,h2⟩:=trodAll_cons h;have h3:=Below.trod hl (hr t (by simp)).1 (hr t (by simp)).2 h1 hb (λx hx=>hp x (by simp [hx]));have h4:=Ku hl hb ts vs' ds' q (λt' ht=>hr t' (by simp [ht])) h2 (λx hx=>hp x (by simp [hx]));exact trodAll_cons_mk h3 h4
theorem UJ {f:Func}{s:ChangeSpec}{W':World}{args:Array Value}{ds gs:List (DataW H)}{before:List MemPlace} (hl:laidOutB P=true)
  (hs:s.vars = []) (hb4:P.underlying 4=some .bool) (ht:∀t ∈ f.params.toList,P.readableRec t=true∧t<P.types.size)
  (hfn:∀ds:List (DataW H),ds.length=f.params.toList.length->s.fn H ds = { results:=[.lit (.bool true)],args:=ds })
  (hW:DataW.Whole enc P f.params.toList s.vars false W args.toList ds gs before) (hb:W.grownBy W' none) (hr:f.resultTypes = #[4]:=by kernel_rfl) :
  s.post enc P f false true false false W args (.bool true) W':=by
 have hW':=hW;obtain ⟨p,q,hA,hV,rfl,hz,hn⟩:=hW;have hlen:∀(ts:List TypeId) (vs:List Value) (ds:List (DataW H)) (ps:List MemPlace),DataW.TrodAll enc P W 0 (λ_=>true) true ts vs ds ps->ds.length=ts.length:=by
  intro ts
  induction ts with
  | nil=>intro vs ds ps h;obtain ⟨_,rfl,_⟩:=trodAll_nil h;rfl
  | cons t ts ih=>
   intro vs ds ps h;obtain ⟨v,vs',d,ds',p,q,rfl,rfl,rfl,h1,h2⟩:=trodAll_cons h;simp [ih _ _ _ h2]
 rw [hs] at hV;obtain ⟨rfl,rfl⟩:=trodVars_none hV;have hbel:=below_grown hb;have e:=hfn ds (hlen _ _ _ _ hA);refine ⟨ds,[],_,[],p,[],hW',?_,?_,?_,World.keptBut_mono (λx hx=>⟨hx,.inr (.inl (by simpa using hx))⟩) (hbel.frame _),λh=>by cases h⟩
 ·rw [List.append_nil,e,hr];exact trodAll_mk1 (shut_bool hb4 true)
 ·rw [List.append_nil,e];exact Ku hl hbel _ _ _ _ ht hA (λx hx=>hW'.lt x (by simpa using hx))
 ·rw [hs,List.append_nil,e];exact rfl
theorem YJ {base:Nat}{held:Bool}{fuel:Nat}{y:DataW H×List MemPlace} (h22:P.underlying 26=some (.slice 106)) (h52:P.underlying 106=some (.int .u32))
  (hf:DataW.trod enc P W base (λ_=>true) held fuel 26 [v]=some y) (hc:P.cellsOf 106=1:=by kernel_rfl):∃xs,Sl W .u32 v xs∧All 4294967296 xs:=by
 rcases open_ints h22 h52 hc hf with ⟨hcs,_⟩ | ⟨a,len,cap,zs,hcs,_,hl,hm,hz,_,hcell,hwz⟩
 ·obtain rfl:v = .slice none 0 0:=by simpa using hcs
  exact ⟨[],Sl.nil _ _,All.nil _⟩
 ·obtain rfl:v = .slice (some a) len cap:=by simpa using hcs
  simp only [if_true] at hz;have hwf:∀n ∈ zs,0<=n∧n<=4294967295:=λn hn=>by have:=hwz n hn;simpa [Lit.wf,IntKind.min,IntKind.max,IntKind.signed,IntKind.bits] using this
  have hlen:((zs.take len).map Int.toNat).length=len:=by simp;omega
  have afS:∀j,j<len->((nth ((zs.take len).map Int.toNat) j:Nat):Int)=zs.getD j 0:=λj hj=>by
   have hjz:j<zs.length:=by omega
   have h0:=hwf zs[j] (List.getElem_mem hjz);simp [nth,hj,hjz];omega
  refine ⟨(zs.take len).map Int.toNat,⟨some a,cap,by rw [hlen],by omega,by simpa [maxLen] using hm,?_⟩,λx hx=>?_⟩
  ·by_cases h0:len=0
   ·exact .inl (List.eq_nil_of_length_eq_zero (by omega))
   ·obtain ⟨b,off,spot⟩:=a;have hspot:spot=none:=by simpa [Addr.add] using World.cell?_spot (hcell 0 (by omega))
    subst hspot;refine .inr ⟨b,off,rfl,?_,λj hj=>?_⟩
    ·have:=World.block_lt_of_cell? _ _ (hcell 0 (by omega));simpa [Addr.add] using this
    ·rw [hlen] at hj;rw [afS j hj,<- Addr.add_lit];exact hcell j (by omega)
  ·obtain ⟨n,hn,rfl⟩:=List.mem_map.1 hx;have:=hwf n (List.mem_of_mem_take hn);omega
end
def db (w:World) (v:Value) (X k:Nat):Prop:=Sl w .i64 v (an 10000 X)∧Bd X k
theorem db.grown  (h:db w v X k) (g:w.grownBy w' none):db w' v X k:=⟨h.1.grown g (.inl rfl),h.2⟩
theorem db.len  (h:db w v X k):(an 10000 X).length<=3*k:=Kh h.2
def iX (w:World) (X k:Nat) (e:Ending) (w':World):Prop:=∃v,e = .returned v∧Own w' 3 .i64 w.heap.size v (an 10000 X)∧Bd X k∧w.grownBy w' none
theorem iX.of  (h:ms w X e w') (hb:Bd X k):iX w X k e w':=by obtain ⟨v,h1,h2,h3⟩:=h;exact ⟨v,h1,h2,hb,h3⟩
section
theorem afT (hx:db w v X i) (hy:db w u Y j) (hi:i+j<=1000000:=by omega):Calls prog 108 #[v,u] w (iX w (X+Y) (i+j+1)):=
 (afC hx.1 hy.1 (by have:=hx.len;omega) (by have:=hy.len;omega)).mono λ_ _ h=>iX.of h (hx.2.add hy.2)
theorem uD (hx:db w v X i) (hy:db w u Y j) (hle:Y<=X) (hi:i<=1000000:=by omega):Calls prog 110 #[v,u] w (iX w (X-Y) i):=
 (Kq hx.1 hy.1 (by have:=hx.len;omega) hle).mono λ_ _ h=>iX.of h (hx.2.sub Y)
theorem afU (hx:db w v X i) (hy:db w u Y j) (hi:i+j<=1000000:=by omega):Calls prog 60 #[v,u] w (iX w (X*Y) (i+j)):=
 (afH hx.1 hy.1 (by have:=hx.len;omega) (by have:=hy.len;omega)).mono λ_ _ h=>iX.of h (hx.2.mul hy.2)
def afV (w:World) (Q R i:Nat) (e:Ending) (w':World):Prop:=∃v u,e = .returned (.tuple #[v,u])∧Own w' 3 .i64 w.heap.size v (an 10000 Q)∧Own w' 3 .i64 w.heap.size u (an 10000 R)∧Bd Q i∧Bd R i∧w.grownBy w' none
theorem EQ (hx:db w v X i) (hy:db w u Y j) (hi:i+j<=1000000) (hY:0<Y):Calls prog 125 #[v,u] w (afV w (X / Y) (X % Y) i):=
 (afO hx.1 hy.1 (by have:=hx.len;omega) (by have:=hy.len;omega) hY).mono λ_ _ ⟨a,b,h1,h2,h3,h4⟩=>⟨a,b,h1,h2,h3,hx.2.div Y,hx.2.mod Y,h4⟩
theorem afW  (h:n<32*k):Bd (2 ^ n) k:=by unfold Bd;rw [show (4294967296:Nat)=2 ^ 32 from rfl,<- Nat.pow_mul];exact Nat.pow_lt_pow_right (by omega) h
theorem afX (n k:Nat) (hn:n<=1000000:=by omega) (hk:n<32*k:=by omega):Calls prog 58 #[.int .i64 n] w (iX w (2 ^ n) k):=
 (afR n w hn).mono λ_ _ h=>iX.of h (afW hk)
theorem uE (hx:db w v X i) (hy:db w u Y j):Calls prog 109 #[v,u] w λe w'=>e = .returned (.int .i64 (dq X Y))∧w.grownBy w' none:=
 (Ko hx.1 hy.1).mono λ_ _ ⟨h,n,hw⟩=>⟨h,by rw [hw];exact jt _ _ _⟩
end
theorem qH  (h:w.cell? a=some x):a.block<w.heap.size:=by
 rcases Nat.lt_or_ge a.block w.heap.size with h1 | h1
 ·exact h1
 ·simp [World.cell?,Array.getElem?_eq_none h1] at h
theorem cell_grown {w:World} (g:w.grownBy w' none) (h:w.cell? a=some x):w'.cell? a=some x:=by rw [World.cell?_of_block (g.block a.block (qH h) (by simp))];exact h
theorem gX {w:World}{x:Value} (g:w.grownBy w' none) (hc:w.cell? a=some x) (h:w.frozen? a=false):w'.frozen? a=false:=by have:=g.block a.block (qH hc) (by simp);simp only [World.frozen?,this] at h ⊢;exact h
def cellOf (w:World) (a:Addr):Value:=(w.cell? a).getD undef
theorem jn  (h:w.cell? a=some x):w.cell? a=some (cellOf w a):=by unfold cellOf;rw [h];rfl
theorem xu (w:World) (a b:Addr) (v:Value):(w.setCell a v).frozen? b=w.frozen? b:=by
 simp only [World.frozen?,World.setCell,Array.getElem?_modify];by_cases e:a.block=b.block
 ·rw [if_pos e];cases h:w.heap[b.block]? with
  | none=>rfl
  | some o=>cases o <;> rfl
 ·rw [if_neg e]
def set2 (w:World) (g:Nat) (u v:Value):World:=(w.setCell ⟨g,0,none⟩ u).setCell ⟨g,1,none⟩ v
theorem jR  (h:w.cell? a=some x) (hg:a.block≠g:=by simp):(set2 w g u v).cell? a=some x:=by unfold set2;rw [World.cell?_setCell_far _ _ _ _ (λe=>hg e.symm),World.cell?_setCell_far _ _ _ _ (λe=>hg e.symm)];exact h
theorem eQ  (h:w.cell? ⟨g,0,none⟩=some x):(set2 w g u v).cell? ⟨g,0,none⟩=some u:=by unfold set2;rw [World.cell?_setCell_other _ _ _ _ (by simp)];exact World.cell?_setCell_same' _ _ _ (by rw [h];rfl)
theorem eR  (h:w.cell? ⟨g,1,none⟩=some x):(set2 w g u v).cell? ⟨g,1,none⟩=some v:=by unfold set2;refine World.cell?_setCell_same' _ _ _ ?_;rw [World.cell?_setCell_other _ _ _ _ (by simp),h];rfl
theorem oV  (h:w.frozen? a=false):(set2 w g u v).frozen? a=false:=by unfold set2;rw [xu,xu];exact h
theorem iR (w:World) (g:Nat) (u v:Value):w.grownBy (set2 w g u v) (some g):=bf (cI _ _ _ _) (cI _ _ _ _)
theorem oW (w:World) (c:Array Value) (t:TypeId) (a:Addr) (h:w.frozen? a=false):(w.alloc (.cells c t)).frozen? a=false:=by
 by_cases e:a.block=w.heap.size
 ·simp only [World.frozen?,e,heap_alloc_new];simp
 ·by_cases e2:a.block<w.heap.size
  ·simp only [World.frozen?,Below.heap_alloc _ _ _ e2] at h ⊢;exact h
  ·have:(w.alloc (.cells c t)).heap[a.block]?=none:=Array.getElem?_eq_none (by simp;omega);simp only [World.frozen?,this]
theorem oZ  (h:w.heap.size<=a.block):w.frozen? a=false:=by simp only [World.frozen?,Array.getElem?_eq_none h]
def fk (W:World):List Nat->World->Prop
 | [],w=>W.grownBy w none
 | g :: rs,w=>w.cell? ⟨g,0,none⟩=some (cellOf w ⟨g,0,none⟩)∧w.cell? ⟨g,1,none⟩=some (cellOf w ⟨g,1,none⟩)∧w.frozen? ⟨g,0,none⟩=false∧w.frozen? ⟨g,1,none⟩=false∧fk W rs w
def Kept (W:World):List (Nat×Nat×Value)->List Nat->World->Prop
 | [],rs,w=>fk W rs w
 | (g,o,x) :: cs,rs,w=>w.cell? ⟨g,o,none⟩=some x∧Kept W cs rs w
theorem fk.grown {W w w':World}:∀(rs:List Nat),fk W rs w->w.grownBy w' none->fk W rs w'
 | [],h,g=>bf h g
 | _ :: rs,h,g=>⟨jn (cell_grown g h.1),jn (cell_grown g h.2.1),gX g h.1 h.2.2.1,gX g h.2.1 h.2.2.2.1,fk.grown rs h.2.2.2.2 g⟩
theorem Kept.grown {W w w':World}:∀(cs:List (Nat×Nat×Value)) (rs:List Nat),Kept W cs rs w->w.grownBy w' none->Kept W cs rs w'
 | [],rs,h,g=>fk.grown rs h g
 | (_,_,_) :: cs,rs,h,g=>⟨cell_grown g h.1,Kept.grown cs rs h.2 g⟩
theorem lO {o:Nat} (ho:o=0∨o=1) (h:w.cell? ⟨g',o,none⟩=some (cellOf w ⟨g',o,none⟩)):(set2 w g u v).cell? ⟨g',o,none⟩=some (cellOf (set2 w g u v) ⟨g',o,none⟩):=by
 by_cases e:g'=g
 ·subst e;rcases ho with rfl | rfl
  ·exact jn (eQ h)
  ·exact jn (eR h)
 ·exact jn (jR h (hg:=e))
theorem fk.set {W w:World}{g:Nat}{u v:Value}:∀(rs:List Nat),W.heap.size<=g->fk W rs w->fk W rs (set2 w g u v)
 | [],hg,h=>di h (iR _ _ _ _) hg
 | _ :: rs,hg,h=>⟨lO (.inl rfl) h.1,lO (.inr rfl) h.2.1,oV h.2.2.1,oV h.2.2.2.1,fk.set rs hg h.2.2.2.2⟩
theorem Kept.set {W w:World}{g:Nat}{u v:Value}:∀(cs:List (Nat×Nat×Value)) (rs:List Nat),(cs.all λc=>c.1 != g)=true->W.heap.size<=g->Kept W cs rs w->Kept W cs rs (set2 w g u v)
 | [],rs,_,hg,h=>fk.set rs hg h
 | (_,_,_) :: cs,rs,hc,hg,h=>by simp only [List.all_cons,Bool.and_eq_true,bne_iff_ne,ne_eq] at hc;exact ⟨jR h.1 (hg:=hc.1),Kept.set cs rs (by simpa using hc.2) hg h.2⟩
theorem Kept.step  (cs:List (Nat×Nat×Value)) (rs:List Nat) (g:w.grownBy w' none) (h:Kept W cs rs w):Kept W cs rs w':=Kept.grown cs rs h g
theorem Kept.start (w:World):Kept w [] [] w:=bH w none
theorem Kept.box  (g:Nat) (x y:Value) (t:TypeId) (h:Kept W cs rs w) (hg:w.heap.size=g):Kept W ((g,0,x) :: (g,1,y) :: cs) rs (w.alloc (.cells #[x,y] t)):=by subst hg;exact ⟨by simp [go_sem],by simp [go_sem],Kept.grown cs rs h (bn _ _ _)⟩
theorem Kept.res {W w:World}{rs:List Nat} (g:Nat) (x y:Value) (t:TypeId):∀(cs:List (Nat×Nat×Value)),Kept W cs rs w->w.heap.size=g->Kept W cs (g :: rs) (w.alloc (.cells #[x,y] t))
 | [],h,hg=>by
  subst hg;have c0:(w.alloc (.cells #[x,y] t)).cell? ⟨w.heap.size,0,none⟩=some x:=by simp [go_sem]
  have c1:(w.alloc (.cells #[x,y] t)).cell? ⟨w.heap.size,1,none⟩=some y:=by simp [go_sem]
  exact ⟨jn c0,jn c1,oW _ _ _ _ (oZ (Nat.le_refl _)),oW _ _ _ _ (oZ (Nat.le_refl _)),fk.grown rs h (bn _ _ _)⟩
 | (g',o,x') :: cs,h,hg=>⟨cell_grown (bn _ _ _) h.1,Kept.res g x y t cs h.2 hg⟩
theorem fk.all {W w:World}:∀(rs:List Nat),fk W rs w->W.grownBy w none
 | [],h=>h
 | _ :: rs,h=>fk.all rs h.2.2.2.2
theorem Kept.all {W w:World}:∀(cs:List (Nat×Nat×Value)) (rs:List Nat),Kept W cs rs w->W.grownBy w none
 | [],rs,h=>fk.all rs h
 | _ :: cs,rs,h=>Kept.all cs rs h.2
theorem Kept.size  (h:Kept W cs rs w):W.heap.size<=w.heap.size:=(Kept.all cs rs h).size
theorem fk.lt {W w:World}{g:Nat}:∀(rs:List Nat),g ∈ rs->fk W rs w->g<w.heap.size
 | _ :: rs,hm,h=>by
  rcases List.mem_cons.1 hm with rfl | hm
  ·exact qH h.1
  ·exact fk.lt rs hm h.2.2.2.2
theorem Kept.lt {W w:World}{g:Nat}:∀{cs:List (Nat×Nat×Value)}{rs:List Nat},Kept W cs rs w->g ∈ rs->g<w.heap.size
 | [],rs,h,hm=>fk.lt rs hm h
 | _ :: _,_,h,hm=>Kept.lt h.2 hm
theorem tB  (b:Addr) (h:w.cell? b=none):(w.setCell a u).cell? b=none:=by
 by_cases e:a=b
 ·subst e;simp only [World.cell?,World.setCell,Array.getElem?_modify] at h ⊢;cases hh:w.heap[a.block]? with
  | none=>simp
  | some o=>
   rw [hh] at h;cases o <;> simp_all
 ·rw [World.cell?_setCell_other _ _ _ _ e];exact h
theorem qI  (h:(set2 w g u v).cell? ⟨g,0,none⟩=some x):(set2 w g u v).cell? ⟨g,0,none⟩=some u:=by
 cases hc:w.cell? ⟨g,0,none⟩ with
 | some y=>exact eQ hc
 | none=>rw [set2,tB _ (tB _ hc)] at h;cases h
theorem qJ  (h:(set2 w g u v).cell? ⟨g,1,none⟩=some x):(set2 w g u v).cell? ⟨g,1,none⟩=some v:=by
 cases hc:w.cell? ⟨g,1,none⟩ with
 | some y=>exact eR hc
 | none=>rw [set2,tB _ (tB _ hc)] at h;cases h
theorem nj (b X:Nat) (hb:2<=b:=by omega):decide (0<(an b X).length)=decide (0<X):=by have:=gy (hb:=hb) (n:=X);exact decide_eq_decide.2 ⟨λh=>by omega,λh=>by omega⟩
theorem own_ne {e:TypeId}{k:IntKind}{xs:List Nat} (h:Own w e k B v xs) (hg:g<B):some g=none∨v.ownBlock≠some g:=
 .inr λx=>by have:=(h.lt g x).1;omega
theorem xw {a:Act}{y:Value} (hres:fn.results = #[ResultVar.cell r 28]) (hd:a.defers = []) (hr:a.tmps[r]?=some (.pointer (some ⟨g,0,none⟩)))
  (c0:w.cell? ⟨g,0,none⟩=some x) (c1:w.cell? ⟨g,1,none⟩=some y) (h:R (.returned (.agg #[x,y])) w):bodyPost prog fn R .ret a w:=by
 simp [bodyPost,results,hres,hr,c0,c1,go_sem,h,hd]
theorem tA {a:Act}{y:Value} (hres:fn.results = #[ResultVar.cell r 55]) (hd:a.defers = []) (hr:a.tmps[r]?=some (.pointer (some ⟨g,0,none⟩)))
  (c0:w.cell? ⟨g,0,none⟩=some x) (c1:w.cell? ⟨g,1,none⟩=some y) (h:R (.returned (.agg #[x,y])) w):bodyPost prog fn R .ret a w:=by
 simp [bodyPost,results,hres,hr,c0,c1,go_sem,h,hd]
def sg (b:Bool) (X:Nat):Int:=if b then -(X:Int) else X
theorem eO (b:Bool) (X:Nat):(sg b X).natAbs=X:=by cases b <;> simp [sg]
theorem ES (b:Bool) (X:Nat):sg (!b) X = - sg b X:=by cases b <;> simp [sg]
theorem pc (b:Bool) (X:Nat):decide (sg b X<0)=(b && decide (0<X)):=by
 cases b
 ·simp [sg]
 ·simp [sg]
theorem xz (z:Int):sg (decide (z<0)) z.natAbs=z:=by unfold sg;split <;> rename_i h <;> simp at h <;> omega
def aD (w:World) (v:Value) (z:Int) (k:Nat):Prop:=∃(b:Bool) (s:Value) (X:Nat),v = .agg #[.bool b,s]∧Num w s X k∧z=sg b X
theorem aD.grown  (h:aD w v z k) (g:w.grownBy w' none):aD w' v z k:=by obtain ⟨b,s,X,h1,h2,h3⟩:=h;exact ⟨b,s,X,h1,h2.grown g,h3⟩
def fN (w:World) (B:Nat) (v:Value) (z:Int):Prop:=∃p cap,v = .agg #[.bool (decide (z<0)),.slice p (an 4294967296 z.natAbs).length cap]∧Own w 106 .u32 B (.slice p (an 4294967296 z.natAbs).length cap) (an 4294967296 z.natAbs)
theorem fN.grown  (h:fN w B v z) (g:w.grownBy w' none):fN w' B v z:=by obtain ⟨p,cap,h1,h2⟩:=h;exact ⟨p,cap,h1,h2.grown g (.inl rfl)⟩
theorem fN.ET  (h:fN w B v z) (hb:Bd z.natAbs k):aD w v z k:=by obtain ⟨p,cap,h1,h2⟩:=h;exact ⟨_,_,_,h1,(show iQ w _ _ _ from ⟨h2.sl,hb⟩).num,(xz z).symm⟩
def fj (w:World) (z:Int) (k:Nat) (e:Ending) (w':World):Prop:=∃v,e = .returned v∧fN w' w.heap.size v z∧Bd z.natAbs k∧w.grownBy w' none
theorem kK {a:Act}{y:Value} (hres:fn.results = #[ResultVar.cell r 28]) (hd:a.defers = []) (hr:a.tmps[r]?=some (.pointer (some ⟨g,0,none⟩)))
  (h0:(set2 w g (.bool (b && decide (0<(an 4294967296 X).length))) (.slice p (an 4294967296 X).length cap)).cell? ⟨g,0,none⟩=some x)
  (h1:(set2 w g (.bool (b && decide (0<(an 4294967296 X).length))) (.slice p (an 4294967296 X).length cap)).cell? ⟨g,1,none⟩=some y)
  (hG:W.grownBy (set2 w g (.bool (b && decide (0<(an 4294967296 X).length))) (.slice p (an 4294967296 X).length cap)) none)
  (ho:Own w 106 .u32 B (.slice p (an 4294967296 X).length cap) (an 4294967296 X)) (hB:W.heap.size<=B) (hg:g<B) (hz:sg b X=z) (hb:Bd X k) :
  bodyPost prog fn (fj W z k) .ret a (set2 w g (.bool (b && decide (0<(an 4294967296 X).length))) (.slice p (an 4294967296 X).length cap)):=by
 subst hz;refine xw hres hd hr (qI h0) (qJ h1) ⟨_,rfl,⟨p,cap,?_,?_⟩,by rw [eO];exact hb,hG⟩
 ·rw [pc,eO,nj _ _]
 ·rw [eO];exact ((ho.mono hB).grown (iR _ _ _ _) (own_ne ho hg))
theorem gK (b:Bool) (p:Option Addr) (n cap:Nat) (w:World) :
  Calls prog 101 #[.bool b,.slice p n cap] w λe w'=>e = .returned (.agg #[.bool (b && decide (0<n)),.slice p n cap])∧w.grownBy w' none:=by
 go_enter func101,ntmps101
 cases b
 all_goals
  go_wp2_with fail
  simp [bodyPost,results,results101,go_sem];exact bn _ _ _
set_option maxHeartbeats 1000000 in
theorem TV  (hx:aD w v z k) (hk:k<=1000000) :
  Calls prog 63 #[v] w (fj w (z) k):=by
 obtain ⟨b,s,X,rfl,hx,rfl⟩:=hx;obtain ⟨p,n,cap,rfl⟩:=hx.slice;have Hx:=hid hx;clear hx;have S0:Kept w [(w.heap.size,0,.bool b),(w.heap.size,1,.slice p n cap)] [w.heap.size+1] ((w.alloc (.cells #[.bool b,.slice p n cap] 28)).alloc (.cells #[.bool false,.slice none 0 0] 28)):=((Kept.start w).box _ _ _ _ rfl).res _ _ _ _ _ (by simp);go_enter func63,ntmps63
 go_wp2_with fail
 go_region_held3 (λw'=>w'.cell? ⟨w.heap.size,0,none⟩=some (.bool b)∧w'.cell? ⟨w.heap.size,1,none⟩=some (.slice p n cap)∧w'.cell? ⟨w.heap.size+1,0,none⟩=some (cellOf w' ⟨w.heap.size+1,0,none⟩)∧w'.cell? ⟨w.heap.size+1,1,none⟩=some (cellOf w' ⟨w.heap.size+1,1,none⟩)∧w'.frozen? ⟨w.heap.size+1,0,none⟩=false∧w'.frozen? ⟨w.heap.size+1,1,none⟩=false∧w.grownBy w' none) (first | exact Kept.step (W:=w) [(w.heap.size,0,.bool b),(w.heap.size,1,.slice p n cap)] [w.heap.size+1] (by assumption) (by assumption) | exact Kept.set (W:=w) [(w.heap.size,0,.bool b),(w.heap.size,1,.slice p n cap)] [w.heap.size+1] (by simp <;> omega) (by first | omega | (simp <;> omega)) (by assumption) | exact Kept.step [(w.heap.size,0,.bool b),(w.heap.size,1,.slice p n cap)] [w.heap.size+1] (ec _ _) S0)
  (first | (go_at_call 102;refine (tz (Hx.out.grown (by go_split_ands;assumption)) hk).mono ?_;rintro e w' ⟨v,rfl,h,bd,hg⟩;obtain ⟨pv,nv,rfl⟩:=h.slice) | (go_at_call 101;refine (gK _ _ _ _ _).mono ?_;rintro e w' ⟨rfl,hg⟩;replace h:=h.grown hg (.inl rfl)))
 rename_i hend;go_wp2_with fail
 exact kK results63 rfl rfl hend.2.2.1 hend.2.2.2.1 hend.2.2.2.2.2.2 h (by first | omega | (simp <;> omega)) (by first | omega | (simp <;> omega)) (rfl) bd
set_option maxHeartbeats 1000000 in
theorem TW  (hx:aD w v z k) (hk:k<=1000000) :
  Calls prog 105 #[v] w (fj w (-z) k):=by
 obtain ⟨b,s,X,rfl,hx,rfl⟩:=hx;obtain ⟨p,n,cap,rfl⟩:=hx.slice;have Hx:=hid hx;clear hx;have S0:Kept w [(w.heap.size,0,.bool b),(w.heap.size,1,.slice p n cap)] [w.heap.size+1] ((w.alloc (.cells #[.bool b,.slice p n cap] 28)).alloc (.cells #[.bool false,.slice none 0 0] 28)):=((Kept.start w).box _ _ _ _ rfl).res _ _ _ _ _ (by simp);go_enter func105,ntmps105
 go_wp2_with fail
 go_region_held3 (λw'=>w'.cell? ⟨w.heap.size,0,none⟩=some (.bool b)∧w'.cell? ⟨w.heap.size,1,none⟩=some (.slice p n cap)∧w'.cell? ⟨w.heap.size+1,0,none⟩=some (cellOf w' ⟨w.heap.size+1,0,none⟩)∧w'.cell? ⟨w.heap.size+1,1,none⟩=some (cellOf w' ⟨w.heap.size+1,1,none⟩)∧w'.frozen? ⟨w.heap.size+1,0,none⟩=false∧w'.frozen? ⟨w.heap.size+1,1,none⟩=false∧w.grownBy w' none) (first | exact Kept.step (W:=w) [(w.heap.size,0,.bool b),(w.heap.size,1,.slice p n cap)] [w.heap.size+1] (by assumption) (by assumption) | exact Kept.set (W:=w) [(w.heap.size,0,.bool b),(w.heap.size,1,.slice p n cap)] [w.heap.size+1] (by simp <;> omega) (by first | omega | (simp <;> omega)) (by assumption) | exact Kept.step [(w.heap.size,0,.bool b),(w.heap.size,1,.slice p n cap)] [w.heap.size+1] (ec _ _) S0)
  (first | (go_at_call 102;refine (tz (Hx.out.grown (by go_split_ands;assumption)) hk).mono ?_;rintro e w' ⟨v,rfl,h,bd,hg⟩;obtain ⟨pv,nv,rfl⟩:=h.slice) | (go_at_call 101;refine (gK _ _ _ _ _).mono ?_;rintro e w' ⟨rfl,hg⟩;replace h:=h.grown hg (.inl rfl)))
 rename_i hend;go_wp2_with fail
 exact kK results105 rfl rfl hend.2.2.1 hend.2.2.2.1 hend.2.2.2.2.2.2 h (by first | omega | (simp <;> omega)) (by first | omega | (simp <;> omega)) (ES _ _) bd
def cK (z y:Int):Int:=if z<y then -1 else if z=y then 0 else 1
theorem TX (X Y:Nat):cK (X:Int) (Y:Int)=dq X Y:=by unfold cK dq;split <;> split <;> (try split) <;> (try split) <;> omega
theorem TY (X Y:Nat):cK (-(X:Int)) (-(Y:Int))=dq Y X:=by unfold cK dq;split <;> split <;> (try split) <;> (try split) <;> omega
theorem EU  (h:¬sg b X<0):sg b X=X:=by
 cases b
 ·rfl
 ·simp [sg] at h ⊢;omega
theorem EV  (h:sg b X<0):sg b X = -(X:Int):=by
 cases b
 ·simp [sg] at h;omega
 ·rfl
set_option maxHeartbeats 1000000 in
theorem jo {k:Nat} (r:Bool) (hx:aD w v z k) (hr:decide (z<0)=r) (hk:k<=1000000:=by omega) :
  Calls prog 142 #[v] w λe w'=>e = .returned (.bool r)∧w.grownBy w' none:=by
 subst hr;obtain ⟨b,s,X,rfl,hx,rfl⟩:=hx;obtain ⟨p,n,cap,rfl⟩:=hx.slice;rw [pc];have Hx:=hid hx;clear hx;cases b
 ·go_enter func142,ntmps142
  go_wp2_with fail
  go_ret
  exact ⟨rfl,bn _ _ _⟩
 ·have Hd:=hid (nj 2 X);go_enter func142,ntmps142
  go_wp2_with fail
  refine (TZ (Hx.out.grown (bn _ _ _)) hk).mono ?_;rintro e w' ⟨rfl,rfl⟩;generalize (an 2 X).length=l at *
  go_wp2_with fail
  go_ret
  refine ⟨?_,bn _ _ _⟩;have:=Hd.out;simp_all
set_option maxHeartbeats 2000000 in
theorem Ua {i:Nat} (r:Int) (hx:aD w v z i) (hy:aD w u y j) (hi:i+j<=1000000) (hr:cK z y=r) :
  Calls prog 113 #[v,u] w λe w'=>e = .returned (.int .i64 r)∧w.grownBy w' none:=by
 have Vx:=hid hx;have Vy:=hid hy;have Hr:=hid hr;obtain ⟨b,s,X,rfl,hx,rfl⟩:=hx;obtain ⟨p,n,cap,rfl⟩:=hx.slice;obtain ⟨b',s',Y,rfl,hy,rfl⟩:=hy;obtain ⟨q,m,cap',rfl⟩:=hy.slice;have Hx:=hid hx;have Hy:=hid hy;have S0:Kept w [(w.heap.size+1,0,.bool b'),(w.heap.size+1,1,.slice q m cap'),(w.heap.size,0,.bool b),(w.heap.size,1,.slice p n cap)] [] ((w.alloc (.cells #[.bool b,.slice p n cap] 28)).alloc (.cells #[.bool b',.slice q m cap'] 28)):=((Kept.start w).box _ _ _ _ rfl).box _ _ _ _ (by simp);clear hx hy hr;by_cases hz:sg b X<0
 ·replace hz:=hid hz;by_cases hw:sg b' Y<0
  ·replace hw:=hid hw;go_enter func113,ntmps113
   go_wp2_with fail
   refine (jo true (Vx.out.grown (Kept.all _ _ S0)) (decide_eq_true hz.out)).mono ?_;rintro e w' ⟨rfl,hg⟩;replace S0:=Kept.grown _ _ S0 hg;clear hg;obtain ⟨c0,c1,c2,c3,G⟩:=id S0;go_wp2_with fail
   clear c0 c1 c2 c3 G;refine (jo true (Vy.out.grown (Kept.all _ _ S0)) (decide_eq_true hw.out)).mono ?_;rintro e w' ⟨rfl,hg⟩;replace S0:=Kept.grown _ _ S0 hg;clear hg;obtain ⟨c0,c1,c2,c3,G⟩:=id S0;go_wp2_with fail
   clear c0 c1 c2 c3 G;refine (xq r (Hy.out.grown (Kept.all _ _ S0)) (Hx.out.grown (Kept.all _ _ S0)) ?_).mono ?_
   ·rw [<- Hr.out];exact (by rw [EV hz.out,EV hw.out,TY])
   rintro e w' ⟨rfl,hg⟩;replace S0:=Kept.grown _ _ S0 hg;go_wp2_with fail
   go_ret
   exact ⟨rfl,Kept.all _ _ S0⟩
  ·replace hw:=hid hw;obtain rfl:r = -1:=by
    have h1:=hz.out;have h2:=hw.out;rw [<- Hr.out,cK,if_pos (by omega)]
   go_enter func113,ntmps113
   go_wp2_with fail
   refine (jo true (Vx.out.grown (Kept.all _ _ S0)) (decide_eq_true hz.out)).mono ?_;rintro e w' ⟨rfl,hg⟩;replace S0:=Kept.grown _ _ S0 hg;clear hg;obtain ⟨c0,c1,c2,c3,G⟩:=id S0;go_wp2_with fail
   clear c0 c1 c2 c3 G;refine (jo false (Vy.out.grown (Kept.all _ _ S0)) (decide_eq_false (Int.not_lt.2 hw.out))).mono ?_;rintro e w' ⟨rfl,hg⟩;replace S0:=Kept.grown _ _ S0 hg;clear hg;obtain ⟨c0,c1,c2,c3,G⟩:=id S0;go_wp2_with fail
   clear c0 c1 c2 c3 G;refine (jo true (Vx.out.grown (Kept.all _ _ S0)) (decide_eq_true hz.out)).mono ?_;rintro e w' ⟨rfl,hg⟩;replace S0:=Kept.grown _ _ S0 hg;clear hg;obtain ⟨c0,c1,c2,c3,G⟩:=id S0;go_wp2_with fail
   clear c0 c1 c2 c3 G;go_ret
   exact ⟨rfl,Kept.all _ _ S0⟩
 ·replace hz:=hid hz;by_cases hw:sg b' Y<0
  ·replace hw:=hid hw;obtain rfl:r=1:=by
    have h1:=hz.out;have h2:=hw.out;rw [<- Hr.out,cK,if_neg (by omega),if_neg (by omega)]
   go_enter func113,ntmps113
   go_wp2_with fail
   refine (jo false (Vx.out.grown (Kept.all _ _ S0)) (decide_eq_false (Int.not_lt.2 hz.out))).mono ?_;rintro e w' ⟨rfl,hg⟩;replace S0:=Kept.grown _ _ S0 hg;clear hg;obtain ⟨c0,c1,c2,c3,G⟩:=id S0;go_wp2_with fail
   clear c0 c1 c2 c3 G;refine (jo false (Vx.out.grown (Kept.all _ _ S0)) (decide_eq_false (Int.not_lt.2 hz.out))).mono ?_;rintro e w' ⟨rfl,hg⟩;replace S0:=Kept.grown _ _ S0 hg;clear hg;obtain ⟨c0,c1,c2,c3,G⟩:=id S0;go_wp2_with fail
   clear c0 c1 c2 c3 G;refine (jo true (Vy.out.grown (Kept.all _ _ S0)) (decide_eq_true hw.out)).mono ?_;rintro e w' ⟨rfl,hg⟩;replace S0:=Kept.grown _ _ S0 hg;clear hg;obtain ⟨c0,c1,c2,c3,G⟩:=id S0;go_wp2_with fail
   clear c0 c1 c2 c3 G;go_ret
   exact ⟨rfl,Kept.all _ _ S0⟩
  ·replace hw:=hid hw;go_enter func113,ntmps113
   go_wp2_with fail
   refine (jo false (Vx.out.grown (Kept.all _ _ S0)) (decide_eq_false (Int.not_lt.2 hz.out))).mono ?_;rintro e w' ⟨rfl,hg⟩;replace S0:=Kept.grown _ _ S0 hg;clear hg;obtain ⟨c0,c1,c2,c3,G⟩:=id S0;go_wp2_with fail
   clear c0 c1 c2 c3 G;refine (jo false (Vx.out.grown (Kept.all _ _ S0)) (decide_eq_false (Int.not_lt.2 hz.out))).mono ?_;rintro e w' ⟨rfl,hg⟩;replace S0:=Kept.grown _ _ S0 hg;clear hg;obtain ⟨c0,c1,c2,c3,G⟩:=id S0;go_wp2_with fail
   clear c0 c1 c2 c3 G;refine (jo false (Vy.out.grown (Kept.all _ _ S0)) (decide_eq_false (Int.not_lt.2 hw.out))).mono ?_;rintro e w' ⟨rfl,hg⟩;replace S0:=Kept.grown _ _ S0 hg;clear hg;obtain ⟨c0,c1,c2,c3,G⟩:=id S0;go_wp2_with fail
   clear c0 c1 c2 c3 G;refine (xq r (Hx.out.grown (Kept.all _ _ S0)) (Hy.out.grown (Kept.all _ _ S0)) ?_).mono ?_
   ·rw [<- Hr.out];exact (by rw [EU (Int.not_lt.2 hz.out),EU (Int.not_lt.2 hw.out),TX])
   rintro e w' ⟨rfl,hg⟩;replace S0:=Kept.grown _ _ S0 hg;go_wp2_with fail
   go_ret
   exact ⟨rfl,Kept.all _ _ S0⟩
theorem tC {a:Act}{y:Value} (hres:fn.results = #[ResultVar.cell r 28]) (hd:a.defers = []) (hr:a.tmps[r]?=some (.pointer (some ⟨g,0,none⟩)))
  (h0:(set2 w g u v).cell? ⟨g,0,none⟩=some x) (h1:(set2 w g u v).cell? ⟨g,1,none⟩=some y) (hG:W.grownBy (set2 w g u v) none)
  (ho:fN w B (.agg #[u,v]) z) (hB:W.heap.size<=B) (hg:g<B) (hb:Bd z.natAbs k):bodyPost prog fn (fj W z k) .ret a (set2 w g u v):=by
 refine xw hres hd hr (qI h0) (qJ h1) ⟨_,rfl,?_,hb,hG⟩;obtain ⟨p,cap,h2,h3⟩:=ho;refine ⟨p,cap,h2,?_⟩;simp only [Value.agg.injEq,Array.mk.injEq,List.cons.injEq,and_true] at h2;obtain ⟨-,rfl⟩:=h2;exact ((h3.mono hB).grown (iR _ _ _ _) (own_ne h3 hg))
set_option maxHeartbeats 1000000 in
theorem EW  (hx:Num w v X i) (hy:Num w u Y j) (hi:i+j<=1000000:=by omega) :
  Calls prog 147 #[v,u] w (fj w ((X:Int)-Y) (i+j)):=by
 have Hx:=hid hx;have Hy:=hid hy;have Bx:=hid (show Bd X (i+j) from hx.bd.more (by omega));have By:=hid (show Bd Y (i+j) from hy.bd.more (by omega));have S0:Kept w [] [w.heap.size] (w.alloc (.cells #[.bool false,.slice none 0 0] 28)):=(Kept.start w).res _ _ _ _ _ rfl;clear hx hy;by_cases hle:Y<=X
 ·replace hle:=hid hle;go_enter func147,ntmps147
  go_wp2_with fail
  have S1:=S0;refine (xA (Hx.out.grown (Kept.all _ _ S0)) (Hy.out.grown (Kept.all _ _ S0)) hle.out).mono ?_;rintro e w' ⟨v,rfl,h,-,hg⟩;obtain ⟨pv,nv,rfl⟩:=h.slice;replace S0:=Kept.grown _ _ S0 hg;clear hg;go_wp2_with fail
  refine (gK _ _ _ _ _).mono ?_;rintro e w' ⟨rfl,hg⟩;replace S0:=Kept.grown _ _ S0 hg;replace h:=h.grown hg (.inl rfl);clear hg;obtain ⟨r0,r1,r2,r3,G⟩:=id S0;go_wp2_with fail
  exact kK (b:=false) results147 rfl rfl (eQ r0) (eR r1) (Kept.all _ _ (Kept.set _ _ (by simp <;> omega) (by first | omega | (simp <;> omega)) S0)) h S1.size (S1.lt (by simp)) (by have:=hle.out;simp [sg];omega) (Bx.out.le (Nat.sub_le _ _))
 ·replace hle:=hid (Nat.lt_of_not_le hle);go_enter func147,ntmps147
  go_wp2_with fail
  refine (Ub (Hx.out.grown (Kept.all _ _ S0)) (Hy.out.grown (Kept.all _ _ S0)) hle.out).mono ?_;rintro e w' ⟨rfl,hg⟩;replace S0:=Kept.grown _ _ S0 hg;clear hg;go_wp2_with fail
  have S1:=S0;refine (xA (Hy.out.grown (Kept.all _ _ S0)) (Hx.out.grown (Kept.all _ _ S0)) (Nat.le_of_lt hle.out)).mono ?_;rintro e w' ⟨v,rfl,h,-,hg⟩;obtain ⟨pv,nv,rfl⟩:=h.slice;replace S0:=Kept.grown _ _ S0 hg;clear hg;go_wp2_with fail
  refine (gK _ _ _ _ _).mono ?_;rintro e w' ⟨rfl,hg⟩;replace S0:=Kept.grown _ _ S0 hg;replace h:=h.grown hg (.inl rfl);clear hg;obtain ⟨r0,r1,r2,r3,G⟩:=id S0;go_wp2_with fail
  exact kK (b:=true) results147 rfl rfl (eQ r0) (eR r1) (Kept.all _ _ (Kept.set _ _ (by simp <;> omega) (by first | omega | (simp <;> omega)) S0)) h S1.size (S1.lt (by simp)) (by have:=hle.out;simp [sg];omega) (By.out.le (Nat.sub_le _ _))
theorem EX (b c:Bool) (X Y:Nat):sg (b != c) (X*Y)=sg b X*sg c Y:=by cases b <;> cases c <;> simp [sg,Int.neg_mul,Int.mul_neg]
set_option maxHeartbeats 2000000 in
theorem Uc  (hx:aD w v z i) (hy:aD w u y j) (hi:i+j<=1000000) :
  Calls prog 117 #[v,u] w (fj w (z*y) (i+j)):=by
 obtain ⟨b,s,X,rfl,hx,rfl⟩:=hx;obtain ⟨p,n,cap,rfl⟩:=hx.slice;obtain ⟨b',s',Y,rfl,hy,rfl⟩:=hy;obtain ⟨q,m,cap',rfl⟩:=hy.slice;have Hx:=hid hx;have Hy:=hid hy;have S0:Kept w [(w.heap.size+1,0,.bool b'),(w.heap.size+1,1,.slice q m cap'),(w.heap.size,0,.bool b),(w.heap.size,1,.slice p n cap)] [w.heap.size+1+1] (((w.alloc (.cells #[.bool b,.slice p n cap] 28)).alloc (.cells #[.bool b',.slice q m cap'] 28)).alloc (.cells #[.bool false,.slice none 0 0] 28)):=(((Kept.start w).box _ _ _ _ rfl).box _ _ _ _ (by simp)).res _ _ _ _ _ (by simp);clear hx hy;go_enter func117,ntmps117
 go_wp2_with fail
 go_region_held3 (λw'=>w'.cell? ⟨w.heap.size+1,0,none⟩=some (.bool b')∧w'.cell? ⟨w.heap.size+1,1,none⟩=some (.slice q m cap')∧w'.cell? ⟨w.heap.size,0,none⟩=some (.bool b)∧w'.cell? ⟨w.heap.size,1,none⟩=some (.slice p n cap)∧w'.cell? ⟨w.heap.size+1+1,0,none⟩=some (cellOf w' ⟨w.heap.size+1+1,0,none⟩)∧w'.cell? ⟨w.heap.size+1+1,1,none⟩=some (cellOf w' ⟨w.heap.size+1+1,1,none⟩)∧w'.frozen? ⟨w.heap.size+1+1,0,none⟩=false∧w'.frozen? ⟨w.heap.size+1+1,1,none⟩=false∧w.grownBy w' none) (first | exact Kept.step (W:=w) [(w.heap.size+1,0,.bool b'),(w.heap.size+1,1,.slice q m cap'),(w.heap.size,0,.bool b),(w.heap.size,1,.slice p n cap)] [w.heap.size+1+1] (by assumption) (by assumption) | exact Kept.set (W:=w) [(w.heap.size+1,0,.bool b'),(w.heap.size+1,1,.slice q m cap'),(w.heap.size,0,.bool b),(w.heap.size,1,.slice p n cap)] [w.heap.size+1+1] (by simp <;> omega) (by first | omega | (simp <;> omega)) (by assumption) | exact Kept.step [(w.heap.size+1,0,.bool b'),(w.heap.size+1,1,.slice q m cap'),(w.heap.size,0,.bool b),(w.heap.size,1,.slice p n cap)] [w.heap.size+1+1] (ec _ _) S0)
  (first | (go_at_call 145;refine (Ud (Hx.out.grown (by go_split_ands;assumption)) (Hy.out.grown (by go_split_ands;assumption))).mono ?_;rintro e w' ⟨v,rfl,h,bd,hg⟩;obtain ⟨pv,nv,rfl⟩:=h.slice) | (go_at_call 101;refine (gK _ _ _ _ _).mono ?_;rintro e w' ⟨rfl,hg⟩;replace h:=h.grown hg (.inl rfl)))
 rename_i hend;go_wp2_with fail
 exact kK results117 rfl rfl hend.2.2.2.2.1 hend.2.2.2.2.2.1 hend.2.2.2.2.2.2.2.2 h (by first | omega | (simp <;> omega)) (by first | omega | (simp <;> omega)) (EX _ _ _ _) bd
theorem EY (b:Bool) (X Y:Nat):sg b (X+Y)=sg b X+sg b Y:=by cases b <;> simp [sg] <;> omega
set_option maxHeartbeats 2000000 in
theorem EZ  (hx:Num w s X i) (hy:Num w s' Y j) (hi:i+j<=1000000) :
  Calls prog 121 #[.agg #[.bool b,s],.agg #[.bool b,s']] w (fj w (sg b X+sg b Y) (i+j+1)):=by
 obtain ⟨p,n,cap,rfl⟩:=hx.slice;obtain ⟨q,m,cap',rfl⟩:=hy.slice;have Hx:=hid hx;have Hy:=hid hy;have S0:Kept w [(w.heap.size+1,0,.bool b),(w.heap.size+1,1,.slice q m cap'),(w.heap.size,0,.bool b),(w.heap.size,1,.slice p n cap)] [w.heap.size+1+1] (((w.alloc (.cells #[.bool b,.slice p n cap] 28)).alloc (.cells #[.bool b,.slice q m cap'] 28)).alloc (.cells #[.bool false,.slice none 0 0] 28)):=(((Kept.start w).box _ _ _ _ rfl).box _ _ _ _ (by simp)).res _ _ _ _ _ (by simp);clear hx hy;go_enter func121,ntmps121
 obtain ⟨c0,c1,c2,c3,r0,r1,r2,r3,G⟩:=id S0;go_wp2_with fail
 go_region_held3 (λw'=>w'.cell? ⟨w.heap.size+1,0,none⟩=some (.bool b)∧w'.cell? ⟨w.heap.size+1,1,none⟩=some (.slice q m cap')∧w'.cell? ⟨w.heap.size,0,none⟩=some (.bool b)∧w'.cell? ⟨w.heap.size,1,none⟩=some (.slice p n cap)∧w'.cell? ⟨w.heap.size+1+1,0,none⟩=some (cellOf w' ⟨w.heap.size+1+1,0,none⟩)∧w'.cell? ⟨w.heap.size+1+1,1,none⟩=some (cellOf w' ⟨w.heap.size+1+1,1,none⟩)∧w'.frozen? ⟨w.heap.size+1+1,0,none⟩=false∧w'.frozen? ⟨w.heap.size+1+1,1,none⟩=false∧w.grownBy w' none) (first | exact Kept.step (W:=w) [(w.heap.size+1,0,.bool b),(w.heap.size+1,1,.slice q m cap'),(w.heap.size,0,.bool b),(w.heap.size,1,.slice p n cap)] [w.heap.size+1+1] (by assumption) (by assumption) | exact Kept.set (W:=w) [(w.heap.size+1,0,.bool b),(w.heap.size+1,1,.slice q m cap'),(w.heap.size,0,.bool b),(w.heap.size,1,.slice p n cap)] [w.heap.size+1+1] (by simp <;> omega) (by first | omega | (simp <;> omega)) (by assumption) | exact Kept.step [(w.heap.size+1,0,.bool b),(w.heap.size+1,1,.slice q m cap'),(w.heap.size,0,.bool b),(w.heap.size,1,.slice p n cap)] [w.heap.size+1+1] (ec _ _) S0)
  (first | (go_at_call 146;refine (Fa (Hx.out.grown (by go_split_ands;assumption)) (Hy.out.grown (by go_split_ands;assumption))).mono ?_;rintro e w' ⟨v,rfl,h,bd,hg⟩;obtain ⟨pv,nv,rfl⟩:=h.slice) | (go_at_call 101;refine (gK _ _ _ _ _).mono ?_;rintro e w' ⟨rfl,hg⟩;replace h:=h.grown hg (.inl rfl)))
 rename_i hend;go_wp2_with fail
 exact kK results121 rfl rfl hend.2.2.2.2.1 hend.2.2.2.2.2.1 hend.2.2.2.2.2.2.2.2 h (by first | omega | (simp <;> omega)) (by first | omega | (simp <;> omega)) (EY _ _ _) bd
set_option maxHeartbeats 2000000 in
theorem Ue  (hx:Num w s X i) (hy:Num w s' Y j) (hi:i+j<=1000000) :
  Calls prog 121 #[.agg #[.bool true,s],.agg #[.bool false,s']] w (fj w ((Y:Int)-X) (j+i)):=by
 obtain ⟨p,n,cap,rfl⟩:=hx.slice;obtain ⟨q,m,cap',rfl⟩:=hy.slice;have Hx:=hid hx;have Hy:=hid hy;have S0:Kept w [(w.heap.size+1,0,.bool false),(w.heap.size+1,1,.slice q m cap'),(w.heap.size,0,.bool true),(w.heap.size,1,.slice p n cap)] [w.heap.size+1+1] (((w.alloc (.cells #[.bool true,.slice p n cap] 28)).alloc (.cells #[.bool false,.slice q m cap'] 28)).alloc (.cells #[.bool false,.slice none 0 0] 28)):=(((Kept.start w).box _ _ _ _ rfl).box _ _ _ _ (by simp)).res _ _ _ _ _ (by simp);clear hx hy;go_enter func121,ntmps121
 go_wp2_with fail
 refine (EW (Hy.out.grown (Kept.all _ _ S0)) (Hx.out.grown (Kept.all _ _ S0))).mono ?_;rintro e w' ⟨v,rfl,ho,bd,hg⟩;obtain ⟨pv,nv,rfl,ho2⟩:=id ho;clear ho2;have S1:=S0;replace S0:=Kept.grown _ _ S0 hg;clear hg;obtain ⟨c0,c1,c2,c3,r0,r1,r2,r3,G⟩:=id S0;go_wp2_with fail
 exact tC results121 rfl rfl (eQ r0) (eR r1) (Kept.all _ _ (Kept.set _ _ (by simp <;> omega) (by first | omega | (simp <;> omega)) S0)) ho S1.size (S1.lt (by simp)) bd
set_option maxHeartbeats 2000000 in
theorem Uf  (hx:Num w s X i) (hy:Num w s' Y j) (hi:i+j<=1000000) :
  Calls prog 121 #[.agg #[.bool false,s],.agg #[.bool true,s']] w (fj w ((X:Int)-Y) (i+j)):=by
 obtain ⟨p,n,cap,rfl⟩:=hx.slice;obtain ⟨q,m,cap',rfl⟩:=hy.slice;have Hx:=hid hx;have Hy:=hid hy;have S0:Kept w [(w.heap.size+1,0,.bool true),(w.heap.size+1,1,.slice q m cap'),(w.heap.size,0,.bool false),(w.heap.size,1,.slice p n cap)] [w.heap.size+1+1] (((w.alloc (.cells #[.bool false,.slice p n cap] 28)).alloc (.cells #[.bool true,.slice q m cap'] 28)).alloc (.cells #[.bool false,.slice none 0 0] 28)):=(((Kept.start w).box _ _ _ _ rfl).box _ _ _ _ (by simp)).res _ _ _ _ _ (by simp);clear hx hy;go_enter func121,ntmps121
 go_wp2_with fail
 refine (EW (Hx.out.grown (Kept.all _ _ S0)) (Hy.out.grown (Kept.all _ _ S0))).mono ?_;rintro e w' ⟨v,rfl,ho,bd,hg⟩;obtain ⟨pv,nv,rfl,ho2⟩:=id ho;clear ho2;have S1:=S0;replace S0:=Kept.grown _ _ S0 hg;clear hg;obtain ⟨c0,c1,c2,c3,r0,r1,r2,r3,G⟩:=id S0;go_wp2_with fail
 exact tC results121 rfl rfl (eQ r0) (eR r1) (Kept.all _ _ (Kept.set _ _ (by simp <;> omega) (by first | omega | (simp <;> omega)) S0)) ho S1.size (S1.lt (by simp)) bd
theorem fj.of {l:Nat} (h:fj w z k e w') (hz:z=y) (hk:k<=l):fj w y l e w':=by subst hz;obtain ⟨v,h1,h2,h3,h4⟩:=h;exact ⟨v,h1,h2,h3.more hk,h4⟩
theorem Fb  (hx:aD w v z i) (hy:aD w u y j) (hi:i+j<=1000000) :
  Calls prog 121 #[v,u] w (fj w (z+y) (i+j+1)):=by
 obtain ⟨b,s,X,rfl,hx,rfl⟩:=hx;obtain ⟨b',s',Y,rfl,hy,rfl⟩:=hy;cases b <;> cases b'
 ·exact (EZ hx hy hi).mono λ_ _ h=>h
 ·exact (Uf hx hy hi).mono λ_ _ h=>h.of (by simp [sg];omega) (by omega)
 ·exact (Ue hx hy hi).mono λ_ _ h=>h.of (by simp [sg];omega) (by omega)
 ·exact (EZ hx hy hi).mono λ_ _ h=>h
set_option maxHeartbeats 1000000 in
theorem Ug  (hx:aD w v z i) (hy:aD w u y j) (hi:i+j<=1000000) :
  Calls prog 78 #[v,u] w (fj w (z-y) (i+j+1)):=by
 obtain ⟨b,s,X,rfl,hx,rfl⟩:=hx;obtain ⟨p,n,cap,rfl⟩:=hx.slice;obtain ⟨b',s',Y,rfl,hy,rfl⟩:=hy;obtain ⟨q,m,cap',rfl⟩:=hy.slice;have Hx:=hid hx;have Hy:=hid hy;have S0:Kept w [(w.heap.size+1,0,.bool b'),(w.heap.size+1,1,.slice q m cap'),(w.heap.size,0,.bool b),(w.heap.size,1,.slice p n cap)] [w.heap.size+1+1] (((w.alloc (.cells #[.bool b,.slice p n cap] 28)).alloc (.cells #[.bool b',.slice q m cap'] 28)).alloc (.cells #[.bool false,.slice none 0 0] 28)):=(((Kept.start w).box _ _ _ _ rfl).box _ _ _ _ (by simp)).res _ _ _ _ _ (by simp);have Vx:=hid (show aD w (.agg #[.bool b,.slice p n cap]) (sg b X) i from ⟨_,_,_,rfl,hx,rfl⟩);have Vy:=hid (show aD w (.agg #[.bool (!b'),.slice q m cap']) (- sg b' Y) j from ⟨_,_,_,rfl,hy,(ES _ _).symm⟩);clear hx hy Hx Hy;rw [Int.sub_eq_add_neg];go_enter func78,ntmps78
 go_wp2_with fail
 refine (Fb (Vx.out.grown (Kept.all _ _ S0)) (Vy.out.grown (Kept.all _ _ S0)) hi).mono ?_;rintro e w' ⟨v,rfl,ho,bd,hg⟩;obtain ⟨pv,nv,rfl,ho2⟩:=id ho;clear ho2;have S1:=S0;replace S0:=Kept.grown _ _ S0 hg;clear hg;obtain ⟨c0,c1,c2,c3,r0,r1,r2,r3,G⟩:=id S0;go_wp2_with fail
 exact tC results78 rfl rfl (eQ r0) (eR r1) (Kept.all _ _ (Kept.set _ _ (by simp <;> omega) (by first | omega | (simp <;> omega)) S0)) ho S1.size (S1.lt (by simp)) bd
theorem Fc  :
  Calls prog 64 #[.agg #[.bool b,.slice p n cap]] w λe w'=>e = .returned (.bool (decide (n=0)))∧w.grownBy w' none:=by
 go_enter func64,ntmps64
 go_wp2_with fail
 go_ret
 refine ⟨?_,bn _ _ _⟩;have e:((n:Int) == 0)=decide (n=0):=by rw [Bool.eq_iff_iff];simp
 rw [e];rfl
theorem Fd {r:Int} (hy:y≠0) (he:z=y*q+r) (h1:r<y.natAbs) (h0:0<=r:=by omega):z / y=q∧z % y=r:=by
 rcases Int.lt_or_gt_of_ne hy with h | h
 ·have:=(Int.ediv_emod_unique (a:=z) (b:=-y) (r:=r) (q:=-q) (by omega)).2 ⟨by rw [he,Int.neg_mul_neg];omega,h0,by omega⟩;rw [Int.ediv_neg,Int.emod_neg] at this;omega
 ·exact (Int.ediv_emod_unique (by omega)).2 ⟨by rw [he];omega,h0,by omega⟩
theorem xB  (hY:Y≠0) (h:b=false∨X % Y=0):sg b X / sg b' Y=sg (b != b') (X / Y)∧sg b X % sg b' Y=((X % Y:Nat):Int):=by
 have e:=Nat.div_add_mod X Y;have l:=Nat.mod_lt X (Nat.pos_of_ne_zero hY);refine Fd (by cases b' <;> simp [sg] <;> omega) ?_ (by rw [eO];omega);have e2:(X:Int)=(Y:Int)*((X / Y:Nat):Int)+((X % Y:Nat):Int):=by rw [<- Int.natCast_mul];omega
 rcases h with rfl | h
 ·generalize ((X % Y:Nat):Int)=r at *
  generalize X / Y=q at *
  cases b' <;> simp only [sg] <;> grind
 ·have h':((X % Y:Nat):Int)=0:=by omega
  rw [h'] at e2 ⊢;generalize X / Y=q at *
  cases b <;> cases b' <;> simp only [sg] <;> grind
theorem Uh  (hY:Y≠0) (h:X % Y≠0):sg true X / sg b' Y=sg (true != b') (X / Y+1)∧sg true X % sg b' Y=((Y-X % Y:Nat):Int):=by
 have e:=Nat.div_add_mod X Y;have l:=Nat.mod_lt X (Nat.pos_of_ne_zero hY);refine Fd (by cases b' <;> simp [sg] <;> omega) ?_ (by rw [eO];omega);have e2:(X:Int)=(Y:Int)*((X / Y:Nat):Int)+((X % Y:Nat):Int):=by rw [<- Int.natCast_mul];omega
 have e3:((Y-X % Y:Nat):Int)=(Y:Int)-((X % Y:Nat):Int):=by omega
 have e4:((X / Y+1:Nat):Int)=((X / Y:Nat):Int)+1:=by omega
 rw [e3];generalize ((X % Y:Nat):Int)=r at *
 generalize X / Y=q at *
 cases b' <;> simp only [sg] <;> simp only [e4] <;> grind
def lP (w:World) (q r:Int) (i j:Nat) (e:Ending) (w':World):Prop:=
 ∃v u,e = .returned (.tuple #[v,u,.int .i64 0])∧fN w' w.heap.size v q∧fN w' w.heap.size u r∧Bd q.natAbs i∧Bd r.natAbs j∧w.grownBy w' none
theorem xC {a:Act}{r' s:Nat}{y x' y':Value} (hres:fn.results = #[ResultVar.cell r 28,ResultVar.cell r' 28,ResultVar.tmp s]) (hd:a.defers = [])
  (hr:a.tmps[r]?=some (.pointer (some ⟨g,0,none⟩))) (hr':a.tmps[r']?=some (.pointer (some ⟨g',0,none⟩))) (hs:a.tmps[s]?=some v)
  (c0:w.cell? ⟨g,0,none⟩=some x) (c1:w.cell? ⟨g,1,none⟩=some y) (d0:w.cell? ⟨g',0,none⟩=some x') (d1:w.cell? ⟨g',1,none⟩=some y') (h:R (.returned (.tuple #[.agg #[x,y],.agg #[x',y'],v])) w):bodyPost prog fn R .ret a w:=by
 simp [bodyPost,results,hres,hr,hr',hs,c0,c1,d0,d1,go_sem,h,hd]
theorem Ui {a:Act}{s:Nat}{y:Value} (hres:fn.results = #[ResultVar.cell r 28,ResultVar.tmp s]) (hd:a.defers = [])
  (hr:a.tmps[r]?=some (.pointer (some ⟨g,0,none⟩))) (hs:a.tmps[s]?=some v)
  (c0:w.cell? ⟨g,0,none⟩=some x) (c1:w.cell? ⟨g,1,none⟩=some y) (h:R (.returned (.tuple #[.agg #[x,y],v])) w):bodyPost prog fn R .ret a w:=by
 simp [bodyPost,results,hres,hr,hs,c0,c1,go_sem,h,hd]
theorem xD {B' cap' n':Nat}{p':Option Addr} (hn:(an 4294967296 X).length=n) (hn':(an 4294967296 Y).length=n')
  (hx:Own w 106 .u32 B (.slice p n cap) (an 4294967296 X)) (hy:Own w 106 .u32 B' (.slice p' n' cap') (an 4294967296 Y))
  (hB:W.heap.size<=B) (hB':W.heap.size<=B') (h1:g<B) (h2:g'<B) (h3:g<B') (h4:g'<B'){r:Int} (hq:q=sg b X) (hr:r=sg b' Y) (bx:Bd X i) (yb:Bd Y j)
  (hG:W.grownBy (set2 (set2 w g (.bool (b && decide (0<n))) (.slice p n cap)) g' (.bool (b' && decide (0<n'))) (.slice p' n' cap')) none) :
  lP W q r i j (.returned (.tuple #[.agg #[.bool (b && decide (0<n)),.slice p n cap],.agg #[.bool (b' && decide (0<n')),.slice p' n' cap'],.int .i64 0]))
   (set2 (set2 w g (.bool (b && decide (0<n))) (.slice p n cap)) g' (.bool (b' && decide (0<n'))) (.slice p' n' cap')):=by
 subst hq hr hn hn';refine ⟨_,_,rfl,⟨p,cap,?_,?_⟩,⟨p',cap',?_,?_⟩,by rw [eO];exact bx,by rw [eO];exact yb,hG⟩
 ·rw [pc,eO,nj _ _]
 ·rw [eO];exact (((hx.mono hB).grown (iR _ _ _ _) (own_ne hx h1)).grown (iR _ _ _ _) (own_ne hx h2))
 ·rw [pc,eO,nj _ _]
 ·rw [eO];exact (((hy.mono hB').grown (iR _ _ _ _) (own_ne hy h3)).grown (iR _ _ _ _) (own_ne hy h4))
set_option maxHeartbeats 2000000 in
theorem Uj  (hx:Num w s X i) (hy:Num w s' Y j) (hi:i+j<=900000) (hY:Y≠0) :
  Calls prog 141 #[.agg #[.bool false,s],.agg #[.bool b',s']] w (lP w (sg false X / sg b' Y) (sg false X % sg b' Y) (i+1) j):=by
 obtain ⟨p,n,cap,rfl⟩:=hx.slice;obtain ⟨q,m,cap',rfl⟩:=hy.slice;have Hx:=hid hx;have Hy:=hid hy;have D:=hid (show sg false X / sg b' Y=sg b' (X / Y)∧sg false X % sg b' Y=((X % Y:Nat):Int) by simpa using xB (b:=false) (b':=b') (X:=X) hY (.inl rfl));have S0:Kept w [(w.heap.size+1,0,.bool b'),(w.heap.size+1,1,.slice q m cap'),(w.heap.size,0,.bool false),(w.heap.size,1,.slice p n cap)] [w.heap.size+1+1+1,w.heap.size+1+1] ((((w.alloc (.cells #[.bool false,.slice p n cap] 28)).alloc (.cells #[.bool b',.slice q m cap'] 28)).alloc (.cells #[.bool false,.slice none 0 0] 28)).alloc (.cells #[.bool false,.slice none 0 0] 28)):=((((Kept.start w).box _ _ _ _ rfl).box _ _ _ _ (by simp)).res _ _ _ _ _ (by simp)).res _ _ _ _ _ (by simp);clear hx hy;go_enter func141,ntmps141
 go_wp2_with fail
 have S1:=S0;refine (tw (Hx.out.grown (Kept.all _ _ S0)) (Hy.out.grown (Kept.all _ _ S0)) hY).mono ?_;rintro e w' ⟨v,u,rfl,hq,hr,-,bq,br,hg⟩;obtain ⟨pv,nv,rfl⟩:=hq.slice;obtain ⟨pu,nu,rfl⟩:=hr.slice;have Sq:=S1.size;have lQ:=S1.lt (g:=w.heap.size+1+1) (by simp);have lR:=S1.lt (g:=w.heap.size+1+1+1) (by simp);replace S0:=Kept.grown _ _ S0 hg;clear hg;have Sr:=Sq;have qK:=lQ;have Lr2:=lR;obtain ⟨c0,c1,c2,c3,r0,r1,r2,r3,r4,r5,r6,r7,G⟩:=id S0;go_wp2_with fail
 refine (gK _ _ _ _ _).mono ?_;rintro e w' ⟨rfl,hg⟩;replace S0:=Kept.grown _ _ S0 hg;replace hq:=hq.grown hg (.inl rfl);replace hr:=hr.grown hg (.inl rfl);clear hg;go_wp2_with fail
 refine (gK _ _ _ _ _).mono ?_;rintro e w' ⟨rfl,hg⟩;replace S0:=Kept.grown _ _ S0 hg;replace hq:=hq.grown hg (.inl rfl);replace hr:=hr.grown hg (.inl rfl);clear hg;obtain ⟨c0,c1,c2,c3,r0,r1,r2,r3,r4,r5,r6,r7,G⟩:=id S0;go_wp2_with fail
 refine xC results141 rfl rfl rfl rfl (jR (eQ r4)) (jR (eR r5)) (eQ (lO (.inl rfl) r0)) (eR (lO (.inr rfl) r1)) ?_;exact xD (b':=false) rfl rfl hq hr Sq Sr lQ lR qK Lr2 D.out.1 D.out.2 (bq.more (by omega)) br (Kept.all _ _ (Kept.set _ _ (by simp <;> omega) (by first | omega | (simp <;> omega)) (Kept.set _ _ (by simp <;> omega) (by first | omega | (simp <;> omega)) S0)))
set_option maxHeartbeats 2000000 in
theorem Uk  (hx:Num w s X i) (hy:Num w s' Y j) (hi:i+j<=900000) (hY:Y≠0) (hR:X % Y=0) :
  Calls prog 141 #[.agg #[.bool true,s],.agg #[.bool b',s']] w (lP w (sg true X / sg b' Y) (sg true X % sg b' Y) (i+1) j):=by
 obtain ⟨p,n,cap,rfl⟩:=hx.slice;obtain ⟨q,m,cap',rfl⟩:=hy.slice;have Hx:=hid hx;have Hy:=hid hy;have D:=hid (show sg true X / sg b' Y=sg (!b') (X / Y)∧sg true X % sg b' Y=((X % Y:Nat):Int) by simpa using xB (b:=true) (b':=b') (X:=X) hY (.inr hR));have H0:=hid (show (an 4294967296 (X % Y)).length=0 from (gy).2 hR);have S0:Kept w [(w.heap.size+1,0,.bool b'),(w.heap.size+1,1,.slice q m cap'),(w.heap.size,0,.bool true),(w.heap.size,1,.slice p n cap)] [w.heap.size+1+1+1,w.heap.size+1+1] ((((w.alloc (.cells #[.bool true,.slice p n cap] 28)).alloc (.cells #[.bool b',.slice q m cap'] 28)).alloc (.cells #[.bool false,.slice none 0 0] 28)).alloc (.cells #[.bool false,.slice none 0 0] 28)):=((((Kept.start w).box _ _ _ _ rfl).box _ _ _ _ (by simp)).res _ _ _ _ _ (by simp)).res _ _ _ _ _ (by simp);clear hx hy;go_enter func141,ntmps141
 go_wp2_with fail
 have S1:=S0;refine (tw (Hx.out.grown (Kept.all _ _ S0)) (Hy.out.grown (Kept.all _ _ S0)) hY).mono ?_;rintro e w' ⟨v,u,rfl,hq,hr,-,bq,br,hg⟩;obtain ⟨pv,nv,rfl⟩:=hq.slice;obtain ⟨pu,nu,rfl⟩:=hr.slice;have Sq:=S1.size;have lQ:=S1.lt (g:=w.heap.size+1+1) (by simp);have lR:=S1.lt (g:=w.heap.size+1+1+1) (by simp);replace S0:=Kept.grown _ _ S0 hg;clear hg;have Sr:=Sq;have qK:=lQ;have Lr2:=lR;obtain ⟨c0,c1,c2,c3,r0,r1,r2,r3,r4,r5,r6,r7,G⟩:=id S0;rw [H0.out] at hr ⊢;go_wp2_with fail
 refine (gK _ _ _ _ _).mono ?_;rintro e w' ⟨rfl,hg⟩;replace S0:=Kept.grown _ _ S0 hg;replace hq:=hq.grown hg (.inl rfl);replace hr:=hr.grown hg (.inl rfl);clear hg;go_wp2_with fail
 refine (gK _ _ _ _ _).mono ?_;rintro e w' ⟨rfl,hg⟩;replace S0:=Kept.grown _ _ S0 hg;replace hq:=hq.grown hg (.inl rfl);replace hr:=hr.grown hg (.inl rfl);clear hg;obtain ⟨c0,c1,c2,c3,r0,r1,r2,r3,r4,r5,r6,r7,G⟩:=id S0;go_wp2_with fail
 refine xC results141 rfl rfl rfl rfl (jR (eQ r4)) (jR (eR r5)) (eQ (lO (.inl rfl) r0)) (eR (lO (.inr rfl) r1)) ?_;exact xD (b':=false) rfl H0.out hq hr Sq Sr lQ lR qK Lr2 D.out.1 D.out.2 (bq.more (by omega)) br (Kept.all _ _ (Kept.set _ _ (by simp <;> omega) (by first | omega | (simp <;> omega)) (Kept.set _ _ (by simp <;> omega) (by first | omega | (simp <;> omega)) S0)))
set_option maxHeartbeats 2000000 in
theorem Ul  (hx:Num w s X i) (hy:Num w s' Y j) (hi:i+j<=900000) (hY:Y≠0) (hR:X % Y≠0) :
  Calls prog 141 #[.agg #[.bool true,s],.agg #[.bool b',s']] w (lP w (sg true X / sg b' Y) (sg true X % sg b' Y) (i+1+1) j):=by
 obtain ⟨p,n,cap,rfl⟩:=hx.slice;obtain ⟨q,m,cap',rfl⟩:=hy.slice;have Hx:=hid hx;have Hy:=hid hy;have D:=hid (show sg true X / sg b' Y=sg (!b') (X / Y+1)∧sg true X % sg b' Y=((Y-X % Y:Nat):Int) by simpa using Uh (b':=b') (X:=X) hY hR);have L0:0<(an 4294967296 (X % Y)).length:=by have:=(gy (b:=4294967296) (n:=X % Y)).1;omega
 have Le:=hid (Nat.le_of_lt (Nat.mod_lt X (Nat.pos_of_ne_zero hY)));have S0:Kept w [(w.heap.size+1,0,.bool b'),(w.heap.size+1,1,.slice q m cap'),(w.heap.size,0,.bool true),(w.heap.size,1,.slice p n cap)] [w.heap.size+1+1+1,w.heap.size+1+1] ((((w.alloc (.cells #[.bool true,.slice p n cap] 28)).alloc (.cells #[.bool b',.slice q m cap'] 28)).alloc (.cells #[.bool false,.slice none 0 0] 28)).alloc (.cells #[.bool false,.slice none 0 0] 28)):=((((Kept.start w).box _ _ _ _ rfl).box _ _ _ _ (by simp)).res _ _ _ _ _ (by simp)).res _ _ _ _ _ (by simp);clear hx hy;go_enter func141,ntmps141
 go_wp2_with fail
 have S1:=S0;refine (tw (Hx.out.grown (Kept.all _ _ S0)) (Hy.out.grown (Kept.all _ _ S0)) hY).mono ?_;rintro e w' ⟨v,u,rfl,hq,hr,-,bq,br,hg⟩;obtain ⟨pv,nv,rfl⟩:=hq.slice;obtain ⟨pu,nu,rfl⟩:=hr.slice;have Sq:=S1.size;have lQ:=S1.lt (g:=w.heap.size+1+1) (by simp);have lR:=S1.lt (g:=w.heap.size+1+1+1) (by simp);replace S0:=Kept.grown _ _ S0 hg;clear hg;obtain ⟨c0,c1,c2,c3,r0,r1,r2,r3,r4,r5,r6,r7,G⟩:=id S0;have L0':(0:Int)<(((an 4294967296 (X % Y)).length:Nat):Int):=by omega
 go_wp2_with fail
 have S3:=S0;have Nq:=(show iQ _ _ _ _ from ⟨hq.sl,bq⟩).num;refine (Fa (Nq.grown (bn _ _ _)) (Num.one _)).mono ?_;clear Nq;rintro e w' ⟨v,rfl,h,Um,hg⟩;replace hg:=bf (bn _ _ _) hg;obtain ⟨pv1,zX,rfl⟩:=h.slice;have Nr:=(show iQ _ _ _ _ from ⟨hr.sl,br⟩).num.grown hg;replace Sq:=Nat.le_trans S3.size (bn _ (.cells #[.int .u32 1] 106) none).size;replace lQ:=Nat.lt_of_lt_of_le (S3.lt (g:=w.heap.size+1+1) (by simp)) (bn _ (.cells #[.int .u32 1] 106) none).size;replace lR:=Nat.lt_of_lt_of_le (S3.lt (g:=w.heap.size+1+1+1) (by simp)) (bn _ (.cells #[.int .u32 1] 106) none).size;replace S0:=Kept.grown _ _ S0 hg;clear hg hq hr;have hq:=h;clear h;clear c0 c1 c2 c3 r0 r1 r2 r3 r4 r5 r6 r7 G;obtain ⟨c0,c1,c2,c3,r0,r1,r2,r3,r4,r5,r6,r7,G⟩:=id S0;go_wp2_with fail
 refine (xA (Hy.out.grown (Kept.all _ _ S0)) Nr Le.out).mono ?_;rintro e w' ⟨v,rfl,hr,br,hg⟩;obtain ⟨pv2,nv2,rfl⟩:=hr.slice;have Sr:=S0.size;have qK:=S0.lt (g:=w.heap.size+1+1) (by simp);have Lr2:=S0.lt (g:=w.heap.size+1+1+1) (by simp);replace S0:=Kept.grown _ _ S0 hg;replace hq:=hq.grown hg (.inl rfl);clear hg;clear c0 c1 c2 c3 r0 r1 r2 r3 r4 r5 r6 r7 G;obtain ⟨c0,c1,c2,c3,r0,r1,r2,r3,r4,r5,r6,r7,G⟩:=id S0;go_wp2_with fail
 refine (gK _ _ _ _ _).mono ?_;rintro e w' ⟨rfl,hg⟩;replace S0:=Kept.grown _ _ S0 hg;replace hq:=hq.grown hg (.inl rfl);replace hr:=hr.grown hg (.inl rfl);clear hg;go_wp2_with fail
 refine (gK _ _ _ _ _).mono ?_;rintro e w' ⟨rfl,hg⟩;replace S0:=Kept.grown _ _ S0 hg;replace hq:=hq.grown hg (.inl rfl);replace hr:=hr.grown hg (.inl rfl);clear hg;obtain ⟨c0,c1,c2,c3,r0,r1,r2,r3,r4,r5,r6,r7,G⟩:=id S0;go_wp2_with fail
 refine xC results141 rfl rfl rfl rfl (jR (eQ r4)) (jR (eR r5)) (eQ (lO (.inl rfl) r0)) (eR (lO (.inr rfl) r1)) ?_;exact xD (b':=false) rfl rfl hq hr Sq Sr lQ lR qK Lr2 D.out.1 D.out.2 Um br (Kept.all _ _ (Kept.set _ _ (by simp <;> omega) (by first | omega | (simp <;> omega)) (Kept.set _ _ (by simp <;> omega) (by first | omega | (simp <;> omega)) S0)))
theorem lP.of {r q' r':Int}{i' j':Nat} (h:lP w q r i j e w') (h1:q=q') (h2:r=r') (hi:i<=i') (hj:j<=j'):lP w q' r' i' j' e w':=by subst h1 h2;obtain ⟨v,u,a1,a2,a3,a4,a5,a6⟩:=h;exact ⟨v,u,a1,a2,a3,a4.more hi,a5.more hj,a6⟩
theorem Un  (hx:aD w v z i) (hy:aD w u y j) (hi:i+j<=900000) (h0:y≠0) :
  Calls prog 141 #[v,u] w (lP w (z / y) (z % y) (i+2) j):=by
 obtain ⟨b,s,X,rfl,hx,rfl⟩:=hx;obtain ⟨b',s',Y,rfl,hy,rfl⟩:=hy;have hY:Y≠0:=by rintro rfl;exact h0 (by cases b' <;> rfl)
 cases b
 ·exact (Uj hx hy hi hY).mono λ_ _ h=>h.of rfl rfl (by omega) (by omega)
 ·by_cases hR:X % Y=0
  ·exact (Uk hx hy hi hY hR).mono λ_ _ h=>h.of rfl rfl (by omega) (by omega)
  ·exact (Ul hx hy hi hY hR).mono λ_ _ h=>h.of rfl rfl (by omega) (by omega)
set_option maxHeartbeats 2000000 in
theorem Uo  (hx:aD w v z i) (hy:aD w u y j) (hi:i+j<=900000) (h0:y≠0∧z % y=0) :
  Calls prog 106 #[v,u] w (λe w'=>∃v,e = .returned (.tuple #[v,.int .i64 0])∧fN w' w.heap.size v (z / y)∧Bd (z / y).natAbs (i+2)∧w.grownBy w' none):=by
 have Vx:=hid hx;have Vy:=hid hy;have H0:=hid h0;obtain ⟨b,s,X,rfl,hx,rfl⟩:=hx;obtain ⟨p,n,cap,rfl⟩:=hx.slice;obtain ⟨b',s',Y,rfl,hy,rfl⟩:=hy;obtain ⟨q,m,cap',rfl⟩:=hy.slice;have Hx:=hid hx;have Hy:=hid hy;have S0:Kept w [(w.heap.size+1,0,.bool b'),(w.heap.size+1,1,.slice q m cap'),(w.heap.size,0,.bool b),(w.heap.size,1,.slice p n cap)] [w.heap.size+1+1] (((w.alloc (.cells #[.bool b,.slice p n cap] 28)).alloc (.cells #[.bool b',.slice q m cap'] 28)).alloc (.cells #[.bool false,.slice none 0 0] 28)):=(((Kept.start w).box _ _ _ _ rfl).box _ _ _ _ (by simp)).res _ _ _ _ _ (by simp);clear hx hy Hx Hy h0;go_enter func106,ntmps106
 go_wp2_with fail
 have S1:=S0;refine (Un (Vx.out.grown (Kept.all _ _ S0)) (Vy.out.grown (Kept.all _ _ S0)) hi H0.out.1).mono ?_;rintro e w1 ⟨v,u,rfl,hq,hr,bq,br,hg⟩;obtain ⟨pv,nv,rfl,hq2⟩:=id hq;obtain ⟨pu,nu,rfl,hr2⟩:=id hr;replace S0:=((Kept.grown _ _ S0 hg).box w1.heap.size (.bool (decide (sg b X / sg b' Y<0))) (.slice pv (an 4294967296 (sg b X / sg b' Y).natAbs).length nv) 28 rfl).grown _ _ (bn _ (.cells #[.bool (decide (sg b X % sg b' Y<0)),.slice pu (an 4294967296 (sg b X % sg b' Y).natAbs).length nu] 28) none);clear hq2 hr2;obtain ⟨q0,q1,c0,c1,c2,c3,r0,r1,r2,r3,G⟩:=id S0;go_wp2_with fail
 refine Fc.mono ?_;rintro e w2 ⟨rfl,hg2⟩;have dz:decide ((an 4294967296 (sg b X % sg b' Y).natAbs).length=0)=decide (sg b X % sg b' Y=0):=by have:=gy (b:=4294967296) (n:=(sg b X % sg b' Y).natAbs);exact decide_eq_decide.2 ⟨λh=>by omega,λh=>by omega⟩
 rw [dz];have Gq:=hid (show (fN w2 _ _ _) from (hq.grown (bf (bn _ _ _) (bn _ _ _))).grown hg2);replace S0:=S0.grown _ _ hg2;have hg1:=hg;clear dz q0 q1 c0 c1 c2 c3 r0 r1 r2 r3 G hg hg2 hq hr;obtain ⟨q0,q1,c0,c1,c2,c3,r0,r1,r2,r3,G⟩:=id S0;have dt:decide (sg b X % sg b' Y=0)=true:=decide_eq_true H0.out.2;rw [dt];go_wp2_with fail
 have hB:=S1.size;have hL:=S1.lt (g:=w.heap.size+1+1) (by simp);refine Ui results106 rfl rfl rfl (eQ r0) (eR r1) ⟨_,rfl,?_,bq,Kept.all _ _ (Kept.set _ _ ?_ (by first | omega | (simp <;> omega)) S0)⟩
 ·obtain ⟨p',cap',h1,h2⟩:=Gq.out;simp only [Value.agg.injEq,Array.mk.injEq,List.cons.injEq,and_true] at h1;obtain ⟨-,h1⟩:=h1;refine ⟨p',cap',by rw [h1],?_⟩;exact (h2.mono hB).grown (iR _ _ _ _) (own_ne h2 hL)
 ·have hL2:=Nat.lt_of_lt_of_le hL hg1.size;simp <;> omega
theorem Num.two (w:World) (x y:Nat) (hx:x<4294967296) (hy:y<4294967296):Num (w.alloc (.cells #[.int .u32 x,.int .u32 y] 106)) (.slice (some ⟨w.heap.size,0,none⟩) 2 2) (x+4294967296*y) 2:=by
 refine ⟨[x,y],⟨_,2,rfl,Nat.le_refl _,by omega,.inr ⟨w.heap.size,0,rfl,by simp,λj hj=>?_⟩⟩,All.cons hx (All.cons hy (All.nil _)),by simp [val],Nat.le_refl _⟩;have:j=0∨j=1:=by simp at hj;omega
 rcases this with rfl | rfl <;> simp [go_sem,nth]
theorem xt (X:Nat) (w:World) (hX:X<18446744073709551616:=by omega):Calls prog 112 #[.int .u64 X] w (kL w X 2):=by
 have h2:X / 4294967296<4294967296:=by omega
 have e1:((X:Int) % 4294967296)=((X % 4294967296:Nat):Int):=by omega
 have e2:((X:Int) / 4294967296)=((X / 4294967296:Nat):Int):=by omega
 have hv:X % 4294967296+4294967296*(X / 4294967296)=X:=by omega
 generalize hA:X / 4294967296=A at *
 generalize hB:X % 4294967296=B at *
 go_enter func112,ntmps112
 go_wp2_with fail
 refine (tz (Num.two w B A (by omega) (by omega)) (by omega)).mono ?_;rintro e w' ⟨v,rfl,h,bd,hg⟩;rw [hv] at h bd;have G:=bf (bn w (.cells #[.int .u32 B,.int .u32 A] 106) none) hg;have h':=h.mono (bn w (.cells #[.int .u32 B,.int .u32 A] 106) none).size;clear hA hB e1 e2 h hg;go_wp2_with fail
 go_ret
 exact ⟨v,rfl,h',bd,G⟩
set_option maxHeartbeats 1000000 in
theorem Up (N:Nat) (w:World) (hN:N<=9223372036854775807:=by omega):Calls prog 68 #[.int .i64 (N:Int)] w (fj w ((N:Int)) 2):=by
 have S0:Kept w [] [w.heap.size] (w.alloc (.cells #[.bool false,.slice none 0 0] 28)):=(Kept.start w).res _ _ _ _ _ rfl;go_enter func68,ntmps68
 go_wp2_with fail
 have S1:=S0;refine (xt N _).mono ?_;rintro e w1 ⟨v,rfl,h,bd,hg⟩;obtain ⟨pv,nv,rfl⟩:=h.slice;replace S0:=S0.grown _ _ hg;clear hg;go_wp2_with fail
 refine (gK _ _ _ _ _).mono ?_;rintro e w2 ⟨rfl,hg⟩;replace h:=h.grown hg (.inl rfl);replace S0:=S0.grown _ _ hg;clear hg;obtain ⟨r0,r1,f0,f1,G⟩:=id S0;go_wp2_with fail
 exact kK (b:=false) results68 rfl rfl (eQ r0) (eR r1) (Kept.all _ _ (Kept.set _ _ (by simp) (Nat.le_refl _) S0)) h S1.size (S1.lt (by simp)) rfl bd
set_option maxHeartbeats 1000000 in
theorem Uq (N:Nat) (w:World) (hN:N<=9223372036854775808:=by omega) (h0:0<N:=by omega):Calls prog 68 #[.int .i64 (-(N:Int))] w (fj w ((-(N:Int))) 2):=by
 have S0:Kept w [] [w.heap.size] (w.alloc (.cells #[.bool false,.slice none 0 0] 28)):=(Kept.start w).res _ _ _ _ _ rfl;have E:=hid (show IntKind.u64.wrap (-IntKind.u64.wrap (-(N:Int)))=N by rw [IntKind.wrap_u64,IntKind.wrap_u64];omega);go_enter func68,ntmps68
 go_wp2_with fail
 rw [E.out];have S1:=S0;refine (xt N _).mono ?_;rintro e w1 ⟨v,rfl,h,bd,hg⟩;obtain ⟨pv,nv,rfl⟩:=h.slice;replace S0:=S0.grown _ _ hg;clear hg;go_wp2_with fail
 refine (gK _ _ _ _ _).mono ?_;rintro e w2 ⟨rfl,hg⟩;replace h:=h.grown hg (.inl rfl);replace S0:=S0.grown _ _ hg;clear hg;obtain ⟨r0,r1,f0,f1,G⟩:=id S0;go_wp2_with fail
 exact kK (b:=true) results68 rfl rfl (eQ r0) (eR r1) (Kept.all _ _ (Kept.set _ _ (by simp) (Nat.le_refl _) S0)) h S1.size (S1.lt (by simp)) rfl bd
theorem Ur (z:Int) (w:World) (h1 : -9223372036854775808<=z) (h2:z<=9223372036854775807):Calls prog 68 #[.int .i64 z] w (fj w z 2):=by
 rcases Int.lt_or_le z 0 with h | h
 ·obtain ⟨N,rfl⟩:∃N:Nat,z = -(N:Int):=⟨z.natAbs,by omega⟩;exact Uq N w
 ·obtain ⟨N,rfl⟩:∃N:Nat,z=(N:Int):=⟨z.natAbs,by omega⟩;exact Up N w
def gL (xs:List Nat) (n k:Nat):Nat:=val 4294967296 ((xs.take n).drop k)
theorem Ff  (hn:n<=xs.length) (hk:k<n:=by omega):gL xs n k=nth xs k+4294967296*gL xs n (k+1):=by unfold gL;rw [fJ _ _ (by rw [List.length_take];omega),fZ _ hk]
theorem Fg (xs:List Nat):gL xs n n=0:=by unfold gL;rw [List.drop_of_length_le (by rw [List.length_take];omega)];rfl
theorem Fh  (a:All 4294967296 xs) (hn:n<=2:=by omega) (hk:1<=k:=by omega):gL xs n k<4294967296:=by
 have:=ff ((a.take n).drop k);have hl:((xs.take n).drop k).length<=1:=by rw [List.length_drop,List.length_take];omega
 exact Nat.lt_of_lt_of_le this (Nat.le_trans (Nat.pow_le_pow_right (by omega) hl) (by omega))
set_option maxHeartbeats 1000000 in
theorem EO  (n:Nat) (hn:min xs.length 2=n) (hx:Sl w .u32 s xs) (ax:All 4294967296 xs) :
  Calls prog 155 #[s] w λe w'=>e = .returned (.int .u64 (gL xs n 0))∧w=w':=by
 obtain ⟨p,cap,rfl,h1,h2,h3⟩:=id hx;have Ax:=hid ax;have hm:min (xs.length:Int) 2=(n:Int):=by omega
 have hl:n<=xs.length:=by omega
 have h2':n<=2:=by omega
 obtain ⟨m,hm'⟩:∃m,xs.length=m:=⟨_,rfl⟩;have Hm:=hid hm';rw [hm'] at hm hl h1 hn ⊢;clear hx ax hm';by_cases hc:2<m
 ·obtain rfl:n=2:=by omega
  have hc':(2:Int)<(m:Int):=by omega
  clear hn hm hl;go_enter func155,ntmps155
  go_wp2_with fail
  go_loopw [3,4] (λnv iv wr=>∃(k:Nat) (q:Int),k<=2∧iv = .int .i64 q∧q=(k:Int)-1∧nv = .int .u64 (gL xs 2 k)∧wr=w) (λ_ iv _=>(intOf iv+1).toNat)
  case atStart=>exact ⟨2,_,Nat.le_refl _,by go_num,by omega,by rw [Fg];rfl,rfl⟩
  case round=>
   obtain ⟨k,q,hk,rfl,hq,rfl,rfl⟩:=hrel;cases k with
   | zero=>
    obtain rfl:q = -1:=by omega
    clear hq;go_wp2_with fail
    go_ret
    exact ⟨rfl,rfl⟩
   | succ k=>
    obtain rfl:q=(k:Int):=by omega
    rcases h3 with h3 | ⟨b,off,rfl,hbl,hyx⟩
    ·have:=Hm.out;rw [h3] at this;simp at this;omega
    have c1:=hyx k (by rw [Hm.out];omega);have b1:nth xs k<4294967296:=cm (by omega) Ax.out k;have HO:=hid (vo (gL xs 2 (k+1)) (nth xs k) b1);have HL:=hid (Fh Ax.out (n:=2) (k:=k+1));have HS:=hid (Ff (xs:=xs) (n:=2) (k:=k) (by rw [Hm.out];omega));have i1:(k:Int)<(m:Int):=by omega
    clear hq hyx;generalize gL xs 2 (k+1)=av at *
    go_wp2_with fail
    go_roundw
    case rel=>exact ⟨k,_,by omega,rfl,rfl,int_eq (by rw [HO.out,HS.out];have:=HL.out;omega),trivial⟩
    case measure=>simp [intOf] <;> omega
 ·obtain rfl:n=m:=by omega
  have hc':¬(2:Int)<(n:Int):=by omega
  clear hn hm hl;go_enter func155,ntmps155
  go_wp2_with fail
  go_loopw [3,4] (λnv iv wr=>∃(k:Nat) (q:Int),k<=n∧iv = .int .i64 q∧q=(k:Int)-1∧nv = .int .u64 (gL xs n k)∧wr=w) (λ_ iv _=>(intOf iv+1).toNat)
  case atStart=>exact ⟨n,_,Nat.le_refl _,by go_num,by omega,by rw [Fg];rfl,rfl⟩
  case round=>
   obtain ⟨k,q,hk,rfl,hq,rfl,rfl⟩:=hrel;cases k with
   | zero=>
    obtain rfl:q = -1:=by omega
    clear hq;go_wp2_with fail
    go_ret
    exact ⟨rfl,rfl⟩
   | succ k=>
    obtain rfl:q=(k:Int):=by omega
    rcases h3 with h3 | ⟨b,off,rfl,hbl,hyx⟩
    ·have:=Hm.out;rw [h3] at this;simp at this;omega
    have c1:=hyx k (by rw [Hm.out];omega);have b1:nth xs k<4294967296:=cm (by omega) Ax.out k;have HO:=hid (vo (gL xs n (k+1)) (nth xs k) b1);have HL:=hid (Fh Ax.out (n:=n) (k:=k+1));have HS:=hid (Ff (xs:=xs) (n:=n) (k:=k) (by rw [Hm.out];omega));have i1:(k:Int)<(n:Int):=by omega
    clear hq hyx;generalize gL xs n (k+1)=av at *
    go_wp2_with fail
    go_roundw
    case rel=>exact ⟨k,_,by omega,rfl,rfl,int_eq (by rw [HO.out,HS.out];have:=HL.out;omega),trivial⟩
    case measure=>simp [intOf] <;> omega
theorem EP  (hn:min xs.length 2=n) (h:val 4294967296 xs<18446744073709551616):gL xs n 0=val 4294967296 xs:=by
 unfold gL;rw [List.drop_zero];have e:=gx 4294967296 xs (k:=n);by_cases h2:xs.length<=n
 ·rw [List.take_of_length_le h2]
 ·obtain rfl:n=2:=by omega
  have:val 4294967296 (xs.drop 2)=0:=by
   rcases Nat.eq_zero_or_pos (val 4294967296 (xs.drop 2)) with h0 | h0
   ·exact h0
   ·have:4294967296 ^ 2*1<=4294967296 ^ 2*val 4294967296 (xs.drop 2):=Nat.mul_le_mul_left _ h0;omega
  rw [this] at e;omega
end Go.Proofs.YtlmanbjkkjfjgaaGreat
